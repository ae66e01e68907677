/- Whether a world is ok: the program's way. -/
import Derived.Test.YtfelhnchnaggmaaWa
import Derived.Test.YtfelhnchnaggmaaRc
namespace Go.Proofs.Ytfelhnchnaggmaa
open Go.ChangeShapes Go.WideShapes Go.ChangeAt Go.RowKit
set_option linter.unusedVariables false
set_option linter.unusedSimpArgs false

def sdB (P : List MgP) : Bool := P.all okP
theorem sdB_step {P : List MgP} {k : Nat} (h : k < P.length) : sdB (P.drop k) = (okP P[k] && sdB (P.drop (k + 1))) := by
  rw [List.drop_eq_getElem_cons h]; rfl
def rsB : Int → List RpP → Bool
  | _, [] => true
  | i, r :: l => (repB r && r.me == i) && rsB (i + 1) l
theorem rsB_step {P : List RpP} {k : Nat} (h : k < P.length) : rsB (k : Int) (P.drop k) = ((repB P[k] && P[k].me == (k : Int)) && rsB ((k : Int) + 1) (P.drop (k + 1))) := by
  rw [List.drop_eq_getElem_cons h]; rfl
def wdB (r : WdP) : Bool := inB r.bad 0 3 && ((decide (r.rs.length = 4) && rsB 0 r.rs) && (decide (r.sd.length ≤ 100) && sdB r.sd))

set_option maxRecDepth 100000 in
set_option maxHeartbeats 4000000 in
theorem saidOk (A : Option Addr) (a : Nat) (P : List MgP) (w : World) (hn : P.length ≤ maxLen) (hr : RdMs w A P) :
    Calls Try.prog 29 #[.slice A P.length a] w fun e w' => e = .returned (.bool (decide (P.length ≤ 100) && sdB P)) ∧ Below w.heap.size w w' := by
  unfold maxLen at hn
  have HR := Lib.hid hr
  clear hr
  by_cases h40 : 100 < P.length
  · have e0 : decide ((100 : Int) < (P.length : Int)) = true := by simp; omega
    have HF := Lib.hid (show (decide (P.length ≤ 100) && sdB P) = false by rw [decide_eq_false (by omega)]; rfl)
    clear h40
    go_enter Try.func29, Try.ntmps29
    go_wp2
    go_light
    go_ret
    exact ⟨ret_bool (HF.out.symm), Below.refl _ _⟩
  have e0 : decide ((100 : Int) < (P.length : Int)) = false := by simp; omega
  have HT := Lib.hid (show (decide (P.length ≤ 100) && sdB P) = sdB P by rw [decide_eq_true (by omega)]; rfl)
  go_enter Try.func29, Try.ntmps29
  go_wp2
  go_loopw [10] (fun i wr => ∃ k : Nat, k ≤ P.length ∧ i = .int .i64 k ∧ Hid (sdB P = sdB (P.drop k)) ∧ Hid (Below w.heap.size w wr)) (fun i _ => P.length - (intOf i).toNat)
  case atStart => exact ⟨0, Nat.zero_le _, rfl, by simp [Hid], Below.refl _ _⟩
  case round =>
    obtain ⟨k, hk, rfl, ht, hb⟩ := hrel
    by_cases hlt : k < P.length
    · obtain ⟨g, o, rfl, ca⟩ := Rd.below HR.out.1 hb.out k hlt
      have rx := (HR.out.2 P[k] (List.getElem_mem hlt)).below hb.out
      have HD := Lib.hid (ht.out.trans (sdB_step hlt))
      clear ht
      generalize P[k] = x at ca rx HD
      have a0 : wr.cell? ⟨g, o + k * 11, none⟩ = some (.int .i64 x.k) := ca 0 _ rfl
      have a1 : wr.cell? ⟨g, o + k * 11 + 1, none⟩ = some (.int .i64 x.f) := ca 1 _ rfl
      have a2 : wr.cell? ⟨g, o + k * 11 + 2, none⟩ = some (.int .i64 x.v) := ca 2 _ rfl
      have a3 : wr.cell? ⟨g, o + k * 11 + 3, none⟩ = some (.int .i64 x.s) := ca 3 _ rfl
      have a4 : wr.cell? ⟨g, o + k * 11 + 4, none⟩ = some (.int .i64 x.r.c) := ca 4 _ rfl
      have a5 : wr.cell? ⟨g, o + k * 11 + 5, none⟩ = some (.int .i64 x.r.n) := ca 5 _ rfl
      have a6 : wr.cell? ⟨g, o + k * 11 + 6, none⟩ = some (.int .i64 x.r.o) := ca 6 _ rfl
      have a7 : wr.cell? ⟨g, o + k * 11 + 7, none⟩ = some (.int .i64 x.r.x) := ca 7 _ rfl
      have a8 : wr.cell? ⟨g, o + k * 11 + 8, none⟩ = some (.int .i64 x.r.y) := ca 8 _ rfl
      have a9 : wr.cell? ⟨g, o + k * 11 + 9, none⟩ = some (.slice x.A x.cl.length x.a) := ca 9 _ rfl
      have a10 : wr.cell? ⟨g, o + k * 11 + 10, none⟩ = some (.slice x.B x.vt.length x.b) := ca 10 _ rfl
      clear ca
      have BB := Lib.hid (hb.out.alloc hb.out.size (.cells #[.int .i64 x.k, .int .i64 x.f, .int .i64 x.v, .int .i64 x.s, .int .i64 x.r.c, .int .i64 x.r.n, .int .i64 x.r.o, .int .i64 x.r.x, .int .i64 x.r.y, .slice x.A x.cl.length x.a, .slice x.B x.vt.length x.b] 72))
      have RX : Hid (x.rd (wr.alloc (.cells #[.int .i64 x.k, .int .i64 x.f, .int .i64 x.v, .int .i64 x.s, .int .i64 x.r.c, .int .i64 x.r.n, .int .i64 x.r.o, .int .i64 x.r.x, .int .i64 x.r.y, .slice x.A x.cl.length x.a, .slice x.B x.vt.length x.b] 72))) := rx.below ((Below.refl _ _).alloc (Nat.le_refl _) _)
      clear rx
      have i0 : (0 : Int) ≤ (k : Int) := by omega
      have i1 : (k : Int) < (P.length : Int) := by omega
      go_wp2_with (fail)
      refine (implMsgOk x _ RX.out).mono ?_
      rintro e w1 ⟨rfl, hb1⟩
      have BB := Lib.hid (Below.and BB.out hb1)
      clear hb1
      rcases h2 : okP x with _ | _
      · have HN := Lib.hid (show sdB P = false by rw [HD.out, h2]; rfl)
        go_wp2
        go_light
        go_ret
        exact ⟨ret_bool ((HT.out.trans HN.out).symm), BB.out⟩
      · have HN := Lib.hid (show sdB P = sdB (P.drop (k + 1)) by rw [HD.out, h2]; rfl)
        clear h2
        go_wp2
        go_roundw
        case rel => exact ⟨k + 1, by omega, by go_num, HN, BB⟩
        case measure => simp [intOf]; omega
    · have HZ := Lib.hid (show sdB P = true by rw [ht.out, List.drop_of_length_le (by omega)]; rfl)
      go_wp2
      go_light
      go_ret
      exact ⟨ret_bool ((HT.out.trans HZ.out).symm), hb.out⟩

set_option maxRecDepth 100000 in
set_option maxHeartbeats 4000000 in
theorem repsOk (A : Option Addr) (a : Nat) (P : List RpP) (w : World) (hn : P.length ≤ maxLen) (hr : RdRs w A P) :
    Calls Try.prog 28 #[.slice A P.length a] w fun e w' => e = .returned (.bool (decide (P.length = 4) && rsB 0 P)) ∧ Below w.heap.size w w' := by
  unfold maxLen at hn
  have HR := Lib.hid hr
  clear hr
  by_cases h40 : P.length ≠ 4
  · have e0 : ((P.length : Int) != (4 : Int)) = true := by simp; omega
    have HF := Lib.hid (show (decide (P.length = 4) && rsB 0 P) = false by rw [decide_eq_false (by omega)]; rfl)
    clear h40
    go_enter Try.func28, Try.ntmps28
    go_wp2
    go_light
    go_ret
    exact ⟨ret_bool (HF.out.symm), Below.refl _ _⟩
  have e0 : ((P.length : Int) != (4 : Int)) = false := by simp; omega
  have HT := Lib.hid (show (decide (P.length = 4) && rsB 0 P) = rsB 0 P by rw [decide_eq_true (by omega)]; rfl)
  go_enter Try.func28, Try.ntmps28
  go_wp2
  go_loopw [10] (fun i wr => ∃ k : Nat, k ≤ P.length ∧ i = .int .i64 k ∧ Hid (rsB 0 P = rsB (k : Int) (P.drop k)) ∧ Hid (Below w.heap.size w wr)) (fun i _ => P.length - (intOf i).toNat)
  case atStart => exact ⟨0, Nat.zero_le _, rfl, by simp [Hid], Below.refl _ _⟩
  case round =>
    obtain ⟨k, hk, rfl, ht, hb⟩ := hrel
    by_cases hlt : k < P.length
    · obtain ⟨g, o, rfl, ca⟩ := Rd.below HR.out.1 hb.out k hlt
      have rx := (HR.out.2 P[k] (List.getElem_mem hlt)).below hb.out
      have HD := Lib.hid (ht.out.trans (rsB_step hlt))
      clear ht
      generalize P[k] = x at ca rx HD
      have a0 : wr.cell? ⟨g, o + k * 7, none⟩ = some (.int .i64 x.me) := ca 0 _ rfl
      have a1 : wr.cell? ⟨g, o + k * 7 + 1, none⟩ = some (.int .i64 x.v) := ca 1 _ rfl
      have a2 : wr.cell? ⟨g, o + k * 7 + 2, none⟩ = some (.bool x.lv) := ca 2 _ rfl
      have a3 : wr.cell? ⟨g, o + k * 7 + 3, none⟩ = some (.int .i64 x.nx) := ca 3 _ rfl
      have a4 : wr.cell? ⟨g, o + k * 7 + 4, none⟩ = some (.slice x.TA x.tk.length x.ta) := ca 4 _ rfl
      have a5 : wr.cell? ⟨g, o + k * 7 + 5, none⟩ = some (.slice x.HA x.hd.length x.ha) := ca 5 _ rfl
      have a6 : wr.cell? ⟨g, o + k * 7 + 6, none⟩ = some (.slice x.DA x.dn.length x.da) := ca 6 _ rfl
      clear ca
      have BB := Lib.hid (hb.out.alloc hb.out.size (.cells #[.int .i64 x.me, .int .i64 x.v, .bool x.lv, .int .i64 x.nx, .slice x.TA x.tk.length x.ta, .slice x.HA x.hd.length x.ha, .slice x.DA x.dn.length x.da] 47))
      have RX : Hid (x.rd (wr.alloc (.cells #[.int .i64 x.me, .int .i64 x.v, .bool x.lv, .int .i64 x.nx, .slice x.TA x.tk.length x.ta, .slice x.HA x.hd.length x.ha, .slice x.DA x.dn.length x.da] 47))) := rx.below ((Below.refl _ _).alloc (Nat.le_refl _) _)
      clear rx
      have i0 : (0 : Int) ≤ (k : Int) := by omega
      have i1 : (k : Int) < (P.length : Int) := by omega
      rcases h1 : (x.me != (k : Int)) with _ | _
      · have HD := Lib.hid (show rsB 0 P = (repB x && rsB ((k : Int) + 1) (P.drop (k + 1))) by rw [HD.out, show (x.me == (k : Int)) = true by simpa using h1, Bool.and_true])
        go_wp2_with (fail)
        refine (implRepOk x _ RX.out).mono ?_
        rintro e w1 ⟨rfl, hb1⟩
        have BB := Lib.hid (Below.and BB.out hb1)
        clear hb1
        rcases h2 : repB x with _ | _
        · have HN := Lib.hid (show rsB 0 P = false by rw [HD.out, h2]; rfl)
          go_wp2
          go_light
          go_ret
          exact ⟨ret_bool ((HT.out.trans HN.out).symm), BB.out⟩
        · have HN := Lib.hid (show rsB 0 P = rsB ((k + 1 : Nat) : Int) (P.drop (k + 1)) by rw [HD.out, h2]; rfl)
          clear h2 h1
          go_wp2
          go_roundw
          case rel => exact ⟨k + 1, by omega, by go_num, HN, BB⟩
          case measure => simp [intOf]; omega
      · have HN := Lib.hid (show rsB 0 P = false by rw [HD.out, show (x.me == (k : Int)) = false by simpa using h1, Bool.and_false]; rfl)
        go_wp2
        go_light
        go_ret
        exact ⟨ret_bool ((HT.out.trans HN.out).symm), BB.out⟩
    · have HZ := Lib.hid (show rsB 0 P = true by rw [ht.out, List.drop_of_length_le (by omega)]; rfl)
      go_wp2
      go_light
      go_ret
      exact ⟨ret_bool ((HT.out.trans HZ.out).symm), hb.out⟩

set_option maxRecDepth 100000 in
set_option maxHeartbeats 2000000 in
theorem implWorldOk (r : WdP) (w : World) (hr : r.rd w) :
    Calls Try.prog 11 #[r.val] w fun e w' => e = .returned (.bool (wdB r)) ∧ Below w.heap.size w w' := by
  have BW : Hid (Below w.heap.size w (w.alloc (.cells #[.int .i64 r.bad, .slice r.RA r.rs.length r.ra, .slice r.SA r.sd.length r.sa] 27))) := (Below.refl _ _).alloc (Nat.le_refl _) _
  have K0 : Hid (Blk (w.alloc (.cells #[.int .i64 r.bad, .slice r.RA r.rs.length r.ra, .slice r.SA r.sd.length r.sa] 27)) w.heap.size 27 #[.int .i64 r.bad, .slice r.RA r.rs.length r.ra, .slice r.SA r.sd.length r.sa]) := Blk.new w
  have HR := Lib.hid (hr.below BW.out)
  have HE : Hid (wdB r = (inB r.bad 0 3 && ((decide (r.rs.length = 4) && rsB 0 r.rs) && (decide (r.sd.length ≤ 100) && sdB r.sd)))) := rfl
  generalize wdB r = RB at HE
  clear hr
  rcases ha : inB r.bad 0 3 with _ | _
  · have HN := Lib.hid (show RB = false by rw [HE.out, ha]; rfl)
    go_enter Try.func11, Try.ntmps11
    go_wp2_with (go_at_call 22; refine (isKeeper _ _).mono ?_; rintro e w' ⟨rfl, rfl⟩; rw [ha])
    go_light
    go_ret
    exact ⟨ret_bool (HN.out.symm), BW.out⟩
  have HE := Lib.hid (show RB = ((decide (r.rs.length = 4) && rsB 0 r.rs) && (decide (r.sd.length ≤ 100) && sdB r.sd)) by rw [HE.out, ha]; rfl)
  go_enter Try.func11, Try.ntmps11
  go_wp2_with (go_at_call 22; refine (isKeeper _ _).mono ?_; rintro e w' ⟨rfl, rfl⟩; rw [ha])
  refine (repsOk r.RA r.ra r.rs _ HR.out.nr HR.out.rr).mono ?_
  rintro e w1 ⟨rfl, hb1⟩
  have BW := Lib.hid (Below.and BW.out hb1)
  have K0 := Lib.hid (K0.out.below hb1)
  have HR := Lib.hid (HR.out.below hb1)
  clear hb1 ha
  have x2 : w1.cell? ⟨w.heap.size, 2, none⟩ = some (.slice r.SA r.sd.length r.sa) := K0.out.cell 2
  rcases h1 : (decide (r.rs.length = 4) && rsB 0 r.rs) with _ | _
  · have HN := Lib.hid (show RB = false by rw [HE.out, h1]; rfl)
    go_wp2
    go_light
    go_ret
    exact ⟨ret_bool (HN.out.symm), BW.out⟩
  have HE := Lib.hid (show RB = (decide (r.sd.length ≤ 100) && sdB r.sd) by rw [HE.out, h1]; rfl)
  clear h1
  go_wp2_with (fail)
  refine (saidOk r.SA r.sa r.sd _ HR.out.ns HR.out.rm).mono ?_
  rintro e w2 ⟨rfl, hb1⟩
  have BW := Lib.hid (Below.and BW.out hb1)
  clear hb1 x2
  go_wp2
  go_light
  go_ret
  exact ⟨ret_bool (HE.out.symm), BW.out⟩

end Go.Proofs.Ytfelhnchnaggmaa
