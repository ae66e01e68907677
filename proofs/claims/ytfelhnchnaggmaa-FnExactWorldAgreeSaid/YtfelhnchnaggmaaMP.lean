/- V, W, X -/
import Derived.Test.YtfelhnchnaggmaaMO
import Derived.Test.YtfelhnchnaggmaaUn
import Derived.Test.YtfelhnchnaggmaaMG
/- The exact law of MsgSame, walked. -/
namespace Go.Proofs.Ytfelhnchnaggmaa
open Go.ChangeShapes Go.WideShapes Go.ChangeAt Go.RowKit
set_option linter.unusedVariables false

theorem specMsgSame (p q : MgP) (w : World) (hp : p.rd w) (hq : q.rd w) :
    Calls Try.prog 47 #[p.val, q.val] w fun e w' => e = .returned (.bool (decide (p.mg = q.mg))) ∧ Below w.heap.size w w' := by
  have Z := below_alloc2 w (.cells #[.int .i64 p.k, .int .i64 p.f, .int .i64 p.v, .int .i64 p.s, .int .i64 p.r.c, .int .i64 p.r.n, .int .i64 p.r.o, .int .i64 p.r.x, .int .i64 p.r.y, .slice p.A p.cl.length p.a, .slice p.B p.vt.length p.b] 72) (.cells #[.int .i64 q.k, .int .i64 q.f, .int .i64 q.v, .int .i64 q.s, .int .i64 q.r.c, .int .i64 q.r.n, .int .i64 q.r.o, .int .i64 q.r.x, .int .i64 q.r.y, .slice q.A q.cl.length q.a, .slice q.B q.vt.length q.b] 72)
  have HP := Lib.hid (hp.below Z)
  have HQ := Lib.hid (hq.below Z)
  have ZZ := Lib.hid Z
  clear hp hq Z
  go_enter Try.func47, Try.ntmps47
  go_wp2_with (fail)
  refine (l3Same p q _ HP.out HQ.out).mono ?_
  rintro e w1 ⟨rfl, hb⟩
  go_wp2
  go_light
  go_ret
  exact ⟨rfl, Below.and ZZ.out hb⟩

theorem szR_neg {left : Int} {n : Nat} (h0 : 0 ≤ left) (h : ¬ szR left n < 0) : (n : Int) ≤ left ∧ szR left n = left - n := by
  unfold szR at h ⊢
  split at h
  · rename_i h1; exact ⟨h1, if_pos h1⟩
  · omega

end Go.Proofs.Ytfelhnchnaggmaa

/- Whether a letter was said. -/
namespace Go.Proofs.Ytfelhnchnaggmaa
open Go.ChangeShapes Go.WideShapes Go.ChangeAt Go.RowKit
set_option linter.unusedVariables false

def hasB (P : List MgP) (m : MgP) : Bool := P.any fun x => decide (x.mg = m.mg)
theorem hasB_step {P : List MgP} {m : MgP} {k : Nat} (h : k < P.length) : hasB (P.drop k) m = (decide (P[k].mg = m.mg) || hasB (P.drop (k + 1)) m) := by
  rw [List.drop_eq_getElem_cons h]; rfl

set_option maxRecDepth 100000 in
set_option maxHeartbeats 1000000 in
theorem l3Has (A : Option Addr) (c : Nat) (P : List MgP) (m : MgP) (w : World) (hn : P.length ≤ maxLen) (hr : RdMs w A P) (hm : m.rd w) :
    Calls Try.prog 97 #[.slice A P.length c, m.val] w fun e w' => e = .returned (.bool (hasB P m)) ∧ Below w.heap.size w w' := by
  unfold maxLen at hn
  have Z0 : Hid (Below w.heap.size w (w.alloc (.cells #[.int .i64 m.k, .int .i64 m.f, .int .i64 m.v, .int .i64 m.s, .int .i64 m.r.c, .int .i64 m.r.n, .int .i64 m.r.o, .int .i64 m.r.x, .int .i64 m.r.y, .slice m.A m.cl.length m.a, .slice m.B m.vt.length m.b] 72))) := (Below.refl _ _).alloc (Nat.le_refl _) _
  have K0 : Hid (Blk (w.alloc (.cells #[.int .i64 m.k, .int .i64 m.f, .int .i64 m.v, .int .i64 m.s, .int .i64 m.r.c, .int .i64 m.r.n, .int .i64 m.r.o, .int .i64 m.r.x, .int .i64 m.r.y, .slice m.A m.cl.length m.a, .slice m.B m.vt.length m.b] 72)) w.heap.size 72 #[.int .i64 m.k, .int .i64 m.f, .int .i64 m.v, .int .i64 m.s, .int .i64 m.r.c, .int .i64 m.r.n, .int .i64 m.r.o, .int .i64 m.r.x, .int .i64 m.r.y, .slice m.A m.cl.length m.a, .slice m.B m.vt.length m.b]) := Blk.new w
  have HR := Lib.hid hr
  have HM := Lib.hid hm
  clear hr hm
  go_enter Try.func97, Try.ntmps97
  go_wp2
  go_loopw [5] (fun i wr => ∃ k : Nat, k ≤ P.length ∧ i = .int .i64 k ∧ Hid (hasB P m = hasB (P.drop k) m) ∧ Hid (Below (w.alloc (.cells #[.int .i64 m.k, .int .i64 m.f, .int .i64 m.v, .int .i64 m.s, .int .i64 m.r.c, .int .i64 m.r.n, .int .i64 m.r.o, .int .i64 m.r.x, .int .i64 m.r.y, .slice m.A m.cl.length m.a, .slice m.B m.vt.length m.b] 72)).heap.size (w.alloc (.cells #[.int .i64 m.k, .int .i64 m.f, .int .i64 m.v, .int .i64 m.s, .int .i64 m.r.c, .int .i64 m.r.n, .int .i64 m.r.o, .int .i64 m.r.x, .int .i64 m.r.y, .slice m.A m.cl.length m.a, .slice m.B m.vt.length m.b] 72)) wr)) (fun i _ => P.length - (intOf i).toNat)
  case atStart => exact ⟨0, Nat.zero_le _, rfl, by simp [Hid], Below.refl _ _⟩
  case round =>
    obtain ⟨k, hk, rfl, ht, hb⟩ := hrel
    have BW := Lib.hid (Below.and Z0.out hb.out)
    by_cases hlt : k < P.length
    · obtain ⟨g, o, rfl, ca⟩ := Rd.below HR.out.1 BW.out k hlt
      have rx := (HR.out.2 P[k] (List.getElem_mem hlt)).below BW.out
      have HD := Lib.hid (hasB_step (m := m) hlt)
      generalize P[k] = x at ca rx HD
      have RX := Lib.hid rx
      have KM := K0.out.below hb.out
      clear rx
      have a0 : wr.cell? ⟨g, o + k * 11, none⟩ = some (.int .i64 x.k) := ca 0 _ rfl
      have a1 : wr.cell? ⟨g, o + k * 11 + 1, none⟩ = some (.int .i64 x.f) := ca 1 _ rfl
      have a2 : wr.cell? ⟨g, o + k * 11 + 2, none⟩ = some (.int .i64 x.v) := ca 2 _ rfl
      have a3 : wr.cell? ⟨g, o + k * 11 + 3, none⟩ = some (.int .i64 x.s) := ca 3 _ rfl
      have a4 : wr.cell? ⟨g, o + k * 11 + 4, none⟩ = some (.int .i64 x.r.c) := ca 4 _ rfl
      have a5 : wr.cell? ⟨g, o + k * 11 + 5, none⟩ = some (.int .i64 x.r.n) := ca 5 _ rfl
      have a6 : wr.cell? ⟨g, o + k * 11 + 6, none⟩ = some (.int .i64 x.r.o) := ca 6 _ rfl
      have a7 : wr.cell? ⟨g, o + k * 11 + 7, none⟩ = some (.int .i64 x.r.x) := ca 7 _ rfl
      have a8 : wr.cell? ⟨g, o + k * 11 + 8, none⟩ = some (.int .i64 x.r.y) := ca 8 _ rfl
      have a9 : wr.cell? ⟨g, o + k * 11 + 9, none⟩ = some (.slice x.A x.cl.length x.a) := ca 9 _ rfl
      have a10 : wr.cell? ⟨g, o + k * 11 + 10, none⟩ = some (.slice x.B x.vt.length x.b) := ca 10 _ rfl
      have b0 : wr.cell? ⟨w.heap.size, 0, none⟩ = some (.int .i64 m.k) := KM.cell 0
      have b1 : wr.cell? ⟨w.heap.size, 1, none⟩ = some (.int .i64 m.f) := KM.cell 1
      have b2 : wr.cell? ⟨w.heap.size, 2, none⟩ = some (.int .i64 m.v) := KM.cell 2
      have b3 : wr.cell? ⟨w.heap.size, 3, none⟩ = some (.int .i64 m.s) := KM.cell 3
      have b4 : wr.cell? ⟨w.heap.size, 4, none⟩ = some (.int .i64 m.r.c) := KM.cell 4
      have b5 : wr.cell? ⟨w.heap.size, 5, none⟩ = some (.int .i64 m.r.n) := KM.cell 5
      have b6 : wr.cell? ⟨w.heap.size, 6, none⟩ = some (.int .i64 m.r.o) := KM.cell 6
      have b7 : wr.cell? ⟨w.heap.size, 7, none⟩ = some (.int .i64 m.r.x) := KM.cell 7
      have b8 : wr.cell? ⟨w.heap.size, 8, none⟩ = some (.int .i64 m.r.y) := KM.cell 8
      have b9 : wr.cell? ⟨w.heap.size, 9, none⟩ = some (.slice m.A m.cl.length m.a) := KM.cell 9
      have b10 : wr.cell? ⟨w.heap.size, 10, none⟩ = some (.slice m.B m.vt.length m.b) := KM.cell 10
      clear ca KM
      have i0 : (0 : Int) ≤ (k : Int) := by omega
      have i1 : (k : Int) < (P.length : Int) := by omega
      go_wp2_with (fail)
      refine wp_region_still_tail 5 (by kernel_rfl) (by kernel_rfl) ?_
      change wpStill _ _ (World.drew _) (fun a' => wpList _ _ _ _ a' (World.drew _)) _ _
      simp only [List.take_succ_cons, List.take_zero, List.drop_succ_cons, List.drop_zero]
      repeat still_step
      refine wpStill_nil ?_
      go_wp2_with (fail)
      refine (l3Same x m _ (RX.out.below (Below.refl _ _).drew) ((HM.out.below BW.out).below (Below.refl _ _).drew)).mono ?_
      rintro e w1 ⟨rfl, h1⟩
      have BB := Lib.hid (Below.and hb.out (Below.and (Below.refl _ _).drew h1))
      rcases hc : decide (x.mg = m.mg) with _ | _
      · have HN := Lib.hid (show hasB (P.drop k) m = hasB (P.drop (k + 1)) m by rw [HD.out, hc]; rfl)
        clear hc h1
        go_wp2
        go_roundw
        case rel => exact ⟨k + 1, by omega, by go_num, ht.out.trans HN.out, BB.out⟩
        case measure => simp [intOf]; omega
      · have HN := Lib.hid (show hasB (P.drop k) m = true by rw [HD.out, hc]; rfl)
        clear hc h1
        go_wp2
        go_light
        go_ret
        exact ⟨ret_bool (by rw [ht.out, HN.out]), Below.and Z0.out BB.out⟩
    · have HZ := Lib.hid (show hasB P m = false by rw [ht.out, List.drop_of_length_le (by omega)]; rfl)
      go_wp2
      go_light
      go_ret
      exact ⟨ret_bool HZ.out.symm, BW.out⟩

set_option maxRecDepth 100000 in
theorem saidOne (x m : MgP) (g : Nat) (w : World) (hx : x.rd w) (hm : m.rd w) (hk : Blk w g 72 #[.int .i64 m.k, .int .i64 m.f, .int .i64 m.v, .int .i64 m.s, .int .i64 m.r.c, .int .i64 m.r.n, .int .i64 m.r.o, .int .i64 m.r.x, .int .i64 m.r.y, .slice m.A m.cl.length m.a, .slice m.B m.vt.length m.b]) :
    Calls Try.prog 84 #[x.val, .pointer (some ⟨g, 0, none⟩)] w fun e w' => e = .returned (.bool (decide (x.mg = m.mg))) ∧ Below w.heap.size w w' := by
  have Z0 : Hid (Below w.heap.size w (w.alloc (.cells #[.int .i64 x.k, .int .i64 x.f, .int .i64 x.v, .int .i64 x.s, .int .i64 x.r.c, .int .i64 x.r.n, .int .i64 x.r.o, .int .i64 x.r.x, .int .i64 x.r.y, .slice x.A x.cl.length x.a, .slice x.B x.vt.length x.b] 72))) := (Below.refl _ _).alloc (Nat.le_refl _) _
  have K0 := hk.alloc (.cells #[.int .i64 x.k, .int .i64 x.f, .int .i64 x.v, .int .i64 x.s, .int .i64 x.r.c, .int .i64 x.r.n, .int .i64 x.r.o, .int .i64 x.r.x, .int .i64 x.r.y, .slice x.A x.cl.length x.a, .slice x.B x.vt.length x.b] 72)
  have b0 : (w.alloc (.cells #[.int .i64 x.k, .int .i64 x.f, .int .i64 x.v, .int .i64 x.s, .int .i64 x.r.c, .int .i64 x.r.n, .int .i64 x.r.o, .int .i64 x.r.x, .int .i64 x.r.y, .slice x.A x.cl.length x.a, .slice x.B x.vt.length x.b] 72)).cell? ⟨g, 0, none⟩ = some (.int .i64 m.k) := K0.cell 0
  have b1 : (w.alloc (.cells #[.int .i64 x.k, .int .i64 x.f, .int .i64 x.v, .int .i64 x.s, .int .i64 x.r.c, .int .i64 x.r.n, .int .i64 x.r.o, .int .i64 x.r.x, .int .i64 x.r.y, .slice x.A x.cl.length x.a, .slice x.B x.vt.length x.b] 72)).cell? ⟨g, 1, none⟩ = some (.int .i64 m.f) := K0.cell 1
  have b2 : (w.alloc (.cells #[.int .i64 x.k, .int .i64 x.f, .int .i64 x.v, .int .i64 x.s, .int .i64 x.r.c, .int .i64 x.r.n, .int .i64 x.r.o, .int .i64 x.r.x, .int .i64 x.r.y, .slice x.A x.cl.length x.a, .slice x.B x.vt.length x.b] 72)).cell? ⟨g, 2, none⟩ = some (.int .i64 m.v) := K0.cell 2
  have b3 : (w.alloc (.cells #[.int .i64 x.k, .int .i64 x.f, .int .i64 x.v, .int .i64 x.s, .int .i64 x.r.c, .int .i64 x.r.n, .int .i64 x.r.o, .int .i64 x.r.x, .int .i64 x.r.y, .slice x.A x.cl.length x.a, .slice x.B x.vt.length x.b] 72)).cell? ⟨g, 3, none⟩ = some (.int .i64 m.s) := K0.cell 3
  have b4 : (w.alloc (.cells #[.int .i64 x.k, .int .i64 x.f, .int .i64 x.v, .int .i64 x.s, .int .i64 x.r.c, .int .i64 x.r.n, .int .i64 x.r.o, .int .i64 x.r.x, .int .i64 x.r.y, .slice x.A x.cl.length x.a, .slice x.B x.vt.length x.b] 72)).cell? ⟨g, 4, none⟩ = some (.int .i64 m.r.c) := K0.cell 4
  have b5 : (w.alloc (.cells #[.int .i64 x.k, .int .i64 x.f, .int .i64 x.v, .int .i64 x.s, .int .i64 x.r.c, .int .i64 x.r.n, .int .i64 x.r.o, .int .i64 x.r.x, .int .i64 x.r.y, .slice x.A x.cl.length x.a, .slice x.B x.vt.length x.b] 72)).cell? ⟨g, 5, none⟩ = some (.int .i64 m.r.n) := K0.cell 5
  have b6 : (w.alloc (.cells #[.int .i64 x.k, .int .i64 x.f, .int .i64 x.v, .int .i64 x.s, .int .i64 x.r.c, .int .i64 x.r.n, .int .i64 x.r.o, .int .i64 x.r.x, .int .i64 x.r.y, .slice x.A x.cl.length x.a, .slice x.B x.vt.length x.b] 72)).cell? ⟨g, 6, none⟩ = some (.int .i64 m.r.o) := K0.cell 6
  have b7 : (w.alloc (.cells #[.int .i64 x.k, .int .i64 x.f, .int .i64 x.v, .int .i64 x.s, .int .i64 x.r.c, .int .i64 x.r.n, .int .i64 x.r.o, .int .i64 x.r.x, .int .i64 x.r.y, .slice x.A x.cl.length x.a, .slice x.B x.vt.length x.b] 72)).cell? ⟨g, 7, none⟩ = some (.int .i64 m.r.x) := K0.cell 7
  have b8 : (w.alloc (.cells #[.int .i64 x.k, .int .i64 x.f, .int .i64 x.v, .int .i64 x.s, .int .i64 x.r.c, .int .i64 x.r.n, .int .i64 x.r.o, .int .i64 x.r.x, .int .i64 x.r.y, .slice x.A x.cl.length x.a, .slice x.B x.vt.length x.b] 72)).cell? ⟨g, 8, none⟩ = some (.int .i64 m.r.y) := K0.cell 8
  have b9 : (w.alloc (.cells #[.int .i64 x.k, .int .i64 x.f, .int .i64 x.v, .int .i64 x.s, .int .i64 x.r.c, .int .i64 x.r.n, .int .i64 x.r.o, .int .i64 x.r.x, .int .i64 x.r.y, .slice x.A x.cl.length x.a, .slice x.B x.vt.length x.b] 72)).cell? ⟨g, 9, none⟩ = some (.slice m.A m.cl.length m.a) := K0.cell 9
  have b10 : (w.alloc (.cells #[.int .i64 x.k, .int .i64 x.f, .int .i64 x.v, .int .i64 x.s, .int .i64 x.r.c, .int .i64 x.r.n, .int .i64 x.r.o, .int .i64 x.r.x, .int .i64 x.r.y, .slice x.A x.cl.length x.a, .slice x.B x.vt.length x.b] 72)).cell? ⟨g, 10, none⟩ = some (.slice m.B m.vt.length m.b) := K0.cell 10
  have HX := Lib.hid (hx.below Z0.out)
  have HM := Lib.hid (hm.below Z0.out)
  clear hx hm hk K0
  go_enter Try.func84, Try.ntmps84
  go_wp2_with (fail)
  refine (msgSame x m _ HX.out HM.out).mono ?_
  rintro e w1 ⟨rfl, hb⟩
  go_wp2
  go_light
  go_ret
  exact ⟨rfl, Below.and Z0.out hb⟩

set_option maxRecDepth 100000 in
set_option maxHeartbeats 1000000 in
theorem slIndexFunc (A : Option Addr) (c : Nat) (P : List MgP) (m : MgP) (q : Nat) (w : World) (hn : P.length ≤ maxLen) (hr : RdMs w A P) (hm : m.rd w) (hk : Blk w q 72 #[.int .i64 m.k, .int .i64 m.f, .int .i64 m.v, .int .i64 m.s, .int .i64 m.r.c, .int .i64 m.r.n, .int .i64 m.r.o, .int .i64 m.r.x, .int .i64 m.r.y, .slice m.A m.cl.length m.a, .slice m.B m.vt.length m.b]) :
    Calls Try.prog 105 #[.slice A P.length c, .func (.func 84) #[] #[.pointer (some ⟨q, 0, none⟩)]] w fun e w' => ∃ r : Int, e = .returned (.int .i64 r) ∧ decide (0 ≤ r) = hasB P m ∧ Below w.heap.size w w' := by
  unfold maxLen at hn
  have HK := Lib.hid hk
  have HR := Lib.hid hr
  have HM := Lib.hid hm
  clear hr hm hk
  go_enter Try.func105, Try.ntmps105
  go_wp2
  go_loopw [8] (fun i wr => ∃ k : Nat, k ≤ P.length ∧ i = .int .i64 k ∧ Hid (hasB P m = hasB (P.drop k) m) ∧ Hid (Below w.heap.size w wr)) (fun i _ => P.length - (intOf i).toNat)
  case atStart => exact ⟨0, Nat.zero_le _, rfl, by simp [Hid], Below.refl _ _⟩
  case round =>
    obtain ⟨k, hk, rfl, ht, hb⟩ := hrel
    by_cases hlt : k < P.length
    · obtain ⟨g, o, rfl, ca⟩ := Rd.below HR.out.1 hb.out k hlt
      have rx := (HR.out.2 P[k] (List.getElem_mem hlt)).below hb.out
      have HD := Lib.hid (hasB_step (m := m) hlt)
      generalize P[k] = x at ca rx HD
      have RX := Lib.hid rx
      clear rx
      have a0 : wr.cell? ⟨g, o + k * 11, none⟩ = some (.int .i64 x.k) := ca 0 _ rfl
      have a1 : wr.cell? ⟨g, o + k * 11 + 1, none⟩ = some (.int .i64 x.f) := ca 1 _ rfl
      have a2 : wr.cell? ⟨g, o + k * 11 + 2, none⟩ = some (.int .i64 x.v) := ca 2 _ rfl
      have a3 : wr.cell? ⟨g, o + k * 11 + 3, none⟩ = some (.int .i64 x.s) := ca 3 _ rfl
      have a4 : wr.cell? ⟨g, o + k * 11 + 4, none⟩ = some (.int .i64 x.r.c) := ca 4 _ rfl
      have a5 : wr.cell? ⟨g, o + k * 11 + 5, none⟩ = some (.int .i64 x.r.n) := ca 5 _ rfl
      have a6 : wr.cell? ⟨g, o + k * 11 + 6, none⟩ = some (.int .i64 x.r.o) := ca 6 _ rfl
      have a7 : wr.cell? ⟨g, o + k * 11 + 7, none⟩ = some (.int .i64 x.r.x) := ca 7 _ rfl
      have a8 : wr.cell? ⟨g, o + k * 11 + 8, none⟩ = some (.int .i64 x.r.y) := ca 8 _ rfl
      have a9 : wr.cell? ⟨g, o + k * 11 + 9, none⟩ = some (.slice x.A x.cl.length x.a) := ca 9 _ rfl
      have a10 : wr.cell? ⟨g, o + k * 11 + 10, none⟩ = some (.slice x.B x.vt.length x.b) := ca 10 _ rfl
      clear ca
      have i0 : (0 : Int) ≤ (k : Int) := by omega
      have i1 : (k : Int) < (P.length : Int) := by omega
      go_wp2_with (fail)
      refine (saidOne x m q _ RX.out (HM.out.below hb.out) (HK.out.below hb.out)).mono ?_
      rintro e w1 ⟨rfl, h1⟩
      have BB := Lib.hid (Below.and hb.out h1)
      rcases hc : decide (x.mg = m.mg) with _ | _
      · have HN := Lib.hid (show hasB (P.drop k) m = hasB (P.drop (k + 1)) m by rw [HD.out, hc]; rfl)
        clear hc h1
        go_wp2
        go_roundw
        case rel => exact ⟨k + 1, by omega, by go_num, ht.out.trans HN.out, BB.out⟩
        case measure => simp [intOf]; omega
      · have HN := Lib.hid (show hasB (P.drop k) m = true by rw [HD.out, hc]; rfl)
        clear hc h1
        go_wp2
        go_light
        go_ret
        exact ⟨k, rfl, by rw [ht.out, HN.out]; simp, BB.out⟩
    · have HZ := Lib.hid (show hasB P m = false by rw [ht.out, List.drop_of_length_le (by omega)]; rfl)
      go_wp2
      go_light
      go_ret
      exact ⟨-1, rfl, by rw [HZ.out]; rfl, hb.out⟩

set_option maxRecDepth 100000 in
theorem implSaidHas (A : Option Addr) (c : Nat) (P : List MgP) (m : MgP) (w : World) (hn : P.length ≤ maxLen) (hr : RdMs w A P) (hm : m.rd w) :
    Calls Try.prog 55 #[.slice A P.length c, m.val] w fun e w' => e = .returned (.bool (hasB P m)) ∧ Below w.heap.size w w' := by
  have Z0 : Hid (Below w.heap.size w (w.alloc (.cells #[.int .i64 m.k, .int .i64 m.f, .int .i64 m.v, .int .i64 m.s, .int .i64 m.r.c, .int .i64 m.r.n, .int .i64 m.r.o, .int .i64 m.r.x, .int .i64 m.r.y, .slice m.A m.cl.length m.a, .slice m.B m.vt.length m.b] 72))) := (Below.refl _ _).alloc (Nat.le_refl _) _
  have K0 : Hid (Blk (w.alloc (.cells #[.int .i64 m.k, .int .i64 m.f, .int .i64 m.v, .int .i64 m.s, .int .i64 m.r.c, .int .i64 m.r.n, .int .i64 m.r.o, .int .i64 m.r.x, .int .i64 m.r.y, .slice m.A m.cl.length m.a, .slice m.B m.vt.length m.b] 72)) w.heap.size 72 #[.int .i64 m.k, .int .i64 m.f, .int .i64 m.v, .int .i64 m.s, .int .i64 m.r.c, .int .i64 m.r.n, .int .i64 m.r.o, .int .i64 m.r.x, .int .i64 m.r.y, .slice m.A m.cl.length m.a, .slice m.B m.vt.length m.b]) := Blk.new w
  have HR := Lib.hid (RdMs.below hr Z0.out)
  have HM := Lib.hid (hm.below Z0.out)
  clear hr hm
  go_enter Try.func55, Try.ntmps55
  go_wp2_with (first | (go_at_call 105; refine (slIndexFunc A c P m w.heap.size _ hn HR.out HM.out K0.out).mono ?_; rintro e w1 ⟨r, rfl, h1, hb⟩) | go_in)
  rcases hc : hasB P m with _ | _
  · rw [hc] at h1
    have h2 : ¬ 0 ≤ r := of_decide_eq_false h1
    go_wp2
    go_light
    go_ret
    exact ⟨ret_bool (by first | (simp; done) | (simp; omega)), Below.and Z0.out hb⟩
  · rw [hc] at h1
    have h2 : 0 ≤ r := of_decide_eq_true h1
    go_wp2
    go_light
    go_ret
    exact ⟨ret_bool (by first | (simp; done) | (simp; omega)), Below.and Z0.out hb⟩
end Go.Proofs.Ytfelhnchnaggmaa

/- The exact law of SaidHas, walked. -/
namespace Go.Proofs.Ytfelhnchnaggmaa
open Go.ChangeShapes Go.WideShapes Go.ChangeAt Go.RowKit
set_option linter.unusedVariables false

theorem hasB_congr {P P' : List MgP} {m m' : MgP} (h : P'.map MgP.mg = P.map MgP.mg) (hm : m'.mg = m.mg) : hasB P' m' = hasB P m := by
  have e : ∀ (L : List MgP) (x : MgP), hasB L x = (L.map MgP.mg).any fun y => decide (y = x.mg) := fun L x => by unfold hasB; rw [List.any_map]; rfl
  rw [e, e, h, hm]

end Go.Proofs.Ytfelhnchnaggmaa
