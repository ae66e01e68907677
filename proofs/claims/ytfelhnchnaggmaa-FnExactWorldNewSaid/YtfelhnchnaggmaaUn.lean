/- Letters held against each other: the laws' way. -/
import Derived.Test.YtfelhnchnaggmaaUm
namespace Go.Proofs.Ytfelhnchnaggmaa
open Go.ChangeShapes Go.WideShapes Go.ChangeAt Go.RowKit
set_option linter.unusedVariables false

set_option maxRecDepth 100000 in
set_option maxHeartbeats 2000000 in
theorem eqMsg (p q : MgP) (w : World) (hp : p.rd w) (hq : q.rd w) :
    Calls Try.prog 64 #[p.val, q.val] w fun e w' => e = .returned (.bool (decide (p.mg = q.mg))) ∧ Below w.heap.size w w' := by
  have z0 := Lib.hid (below_alloc2 w (.cells #[.int .i64 p.k, .int .i64 p.f, .int .i64 p.v, .int .i64 p.s, .int .i64 p.r.c, .int .i64 p.r.n, .int .i64 p.r.o, .int .i64 p.r.x, .int .i64 p.r.y, .slice p.A p.cl.length p.a, .slice p.B p.vt.length p.b] 72) (.cells #[.int .i64 q.k, .int .i64 q.f, .int .i64 q.v, .int .i64 q.s, .int .i64 q.r.c, .int .i64 q.r.n, .int .i64 q.r.o, .int .i64 q.r.x, .int .i64 q.r.y, .slice q.A q.cl.length q.a, .slice q.B q.vt.length q.b] 72))
  have K0 : Hid (Blk ((w.alloc (.cells #[.int .i64 p.k, .int .i64 p.f, .int .i64 p.v, .int .i64 p.s, .int .i64 p.r.c, .int .i64 p.r.n, .int .i64 p.r.o, .int .i64 p.r.x, .int .i64 p.r.y, .slice p.A p.cl.length p.a, .slice p.B p.vt.length p.b] 72)).alloc (.cells #[.int .i64 q.k, .int .i64 q.f, .int .i64 q.v, .int .i64 q.s, .int .i64 q.r.c, .int .i64 q.r.n, .int .i64 q.r.o, .int .i64 q.r.x, .int .i64 q.r.y, .slice q.A q.cl.length q.a, .slice q.B q.vt.length q.b] 72)) w.heap.size 72 #[.int .i64 p.k, .int .i64 p.f, .int .i64 p.v, .int .i64 p.s, .int .i64 p.r.c, .int .i64 p.r.n, .int .i64 p.r.o, .int .i64 p.r.x, .int .i64 p.r.y, .slice p.A p.cl.length p.a, .slice p.B p.vt.length p.b]) := (Blk.new w).alloc _
  have K1 : Hid (Blk ((w.alloc (.cells #[.int .i64 p.k, .int .i64 p.f, .int .i64 p.v, .int .i64 p.s, .int .i64 p.r.c, .int .i64 p.r.n, .int .i64 p.r.o, .int .i64 p.r.x, .int .i64 p.r.y, .slice p.A p.cl.length p.a, .slice p.B p.vt.length p.b] 72)).alloc (.cells #[.int .i64 q.k, .int .i64 q.f, .int .i64 q.v, .int .i64 q.s, .int .i64 q.r.c, .int .i64 q.r.n, .int .i64 q.r.o, .int .i64 q.r.x, .int .i64 q.r.y, .slice q.A q.cl.length q.a, .slice q.B q.vt.length q.b] 72)) (w.heap.size + 1) 72 #[.int .i64 q.k, .int .i64 q.f, .int .i64 q.v, .int .i64 q.s, .int .i64 q.r.c, .int .i64 q.r.n, .int .i64 q.r.o, .int .i64 q.r.x, .int .i64 q.r.y, .slice q.A q.cl.length q.a, .slice q.B q.vt.length q.b]) := by have := Blk.new (t := 72) (cs := #[.int .i64 q.k, .int .i64 q.f, .int .i64 q.v, .int .i64 q.s, .int .i64 q.r.c, .int .i64 q.r.n, .int .i64 q.r.o, .int .i64 q.r.x, .int .i64 q.r.y, .slice q.A q.cl.length q.a, .slice q.B q.vt.length q.b]) (w.alloc (.cells #[.int .i64 p.k, .int .i64 p.f, .int .i64 p.v, .int .i64 p.s, .int .i64 p.r.c, .int .i64 p.r.n, .int .i64 p.r.o, .int .i64 p.r.x, .int .i64 p.r.y, .slice p.A p.cl.length p.a, .slice p.B p.vt.length p.b] 72)); simpa [Hid] using this
  obtain ⟨m1, m2, r1, r2⟩ := hp.below z0.out
  obtain ⟨n1, n2, s1, s2⟩ := hq.below z0.out
  have R1 := Lib.hid r1
  have R2 := Lib.hid r2
  have S1 := Lib.hid s1
  have S2 := Lib.hid s2
  clear hp hq r1 r2 s1 s2
  rcases h1 : (p.k != q.k) with _ | _
  rotate_left
  · go_enter Try.func64, Try.ntmps64
    go_wp2
    go_light
    go_ret
    exact ⟨ret_bool (by simp_all [MgP.mg]), z0.out⟩
  rcases h2 : (p.f != q.f) with _ | _
  rotate_left
  · go_enter Try.func64, Try.ntmps64
    go_wp2
    go_light
    go_ret
    exact ⟨ret_bool (by simp_all [MgP.mg]), z0.out⟩
  rcases h3 : (p.v != q.v) with _ | _
  rotate_left
  · go_enter Try.func64, Try.ntmps64
    go_wp2
    go_light
    go_ret
    exact ⟨ret_bool (by simp_all [MgP.mg]), z0.out⟩
  rcases h4 : (p.s != q.s) with _ | _
  rotate_left
  · go_enter Try.func64, Try.ntmps64
    go_wp2
    go_light
    go_ret
    exact ⟨ret_bool (by simp_all [MgP.mg]), z0.out⟩
  go_enter Try.func64, Try.ntmps64
  go_wp2_with (fail)
  refine (eqReq p.r q.r _).mono ?_
  rintro e w1 ⟨rfl, hb⟩
  have Z1 := Lib.hid hb
  have B1 := Lib.hid (Below.and z0.out hb)
  have K2 := Lib.hid (K0.out.below hb)
  have K3 := Lib.hid (K1.out.below hb)
  clear hb
  rcases h5 : decide (p.r = q.r) with _ | _
  · go_wp2
    go_light
    go_ret
    exact ⟨ret_bool (by simp_all [MgP.mg]), B1.out⟩
  have x9 : w1.cell? ⟨w.heap.size, 9, none⟩ = some (.slice p.A p.cl.length p.a) := K2.out.cell 9
  have x10 : w1.cell? ⟨w.heap.size, 10, none⟩ = some (.slice p.B p.vt.length p.b) := K2.out.cell 10
  have y9 : w1.cell? ⟨w.heap.size + 1, 9, none⟩ = some (.slice q.A q.cl.length q.a) := K3.out.cell 9
  have y10 : w1.cell? ⟨w.heap.size + 1, 10, none⟩ = some (.slice q.B q.vt.length q.b) := K3.out.cell 10
  go_wp2_with (fail)
  refine (eqClaimS p.A q.A p.a q.a p.cl q.cl _ m1 (R1.out.below Z1.out) (S1.out.below Z1.out)).mono ?_
  rintro e w2 ⟨rfl, hb⟩
  have Z2 := Lib.hid (Below.and Z1.out hb)
  have B2 := Lib.hid (Below.and B1.out hb)
  have K2 := Lib.hid (K2.out.below hb)
  have K3 := Lib.hid (K3.out.below hb)
  clear hb x9 x10 y9 y10
  rcases h6 : decide (p.cl = q.cl) with _ | _
  · go_wp2
    go_light
    go_ret
    exact ⟨ret_bool (by simp_all [MgP.mg]), B2.out⟩
  have x9 : w2.cell? ⟨w.heap.size, 9, none⟩ = some (.slice p.A p.cl.length p.a) := K2.out.cell 9
  have x10 : w2.cell? ⟨w.heap.size, 10, none⟩ = some (.slice p.B p.vt.length p.b) := K2.out.cell 10
  have y9 : w2.cell? ⟨w.heap.size + 1, 9, none⟩ = some (.slice q.A q.cl.length q.a) := K3.out.cell 9
  have y10 : w2.cell? ⟨w.heap.size + 1, 10, none⟩ = some (.slice q.B q.vt.length q.b) := K3.out.cell 10
  go_wp2_with (fail)
  refine (eqVoteS p.B q.B p.b q.b p.vt q.vt _ m2 (R2.out.below Z2.out) (S2.out.below Z2.out)).mono ?_
  rintro e w3 ⟨rfl, hb⟩
  have B3 := Lib.hid (Below.and B2.out hb)
  clear hb x9 x10 y9 y10
  rcases h8 : decide (p.vt.map VtP.vt = q.vt.map VtP.vt) with _ | _
  all_goals go_wp2
  all_goals go_light
  all_goals go_ret
  all_goals exact ⟨ret_bool (by simp_all [MgP.mg]), B3.out⟩

set_option maxRecDepth 100000 in
theorem eqMsgS (A B : Option Addr) (c d : Nat) (la lb : List MgP) (w : World) (hA : la.length ≤ maxLen) (ha : RdMs w A la) (hb : RdMs w B lb) :
    Calls Try.prog 38 #[.slice A la.length c, .slice B lb.length d] w fun e w' => e = .returned (.bool (decide (la.map MgP.mg = lb.map MgP.mg))) ∧ Below w.heap.size w w' := by
  unfold maxLen at hA
  have HA := Lib.hid ha
  have HB := Lib.hid hb
  clear ha hb
  by_cases hl : la.length = lb.length
  · have hl1 : ((la.length : Int) != (lb.length : Int)) = false := by simp [hl]
    have HL := Lib.hid hl
    clear hl
    go_enter Try.func38, Try.ntmps38
    go_wp2
    go_loopw [5] (fun i wr => ∃ k : Nat, k ≤ la.length ∧ i = .int .i64 k ∧ Hid (Below w.heap.size w wr) ∧ Hid ((la.map MgP.mg).take k = (lb.map MgP.mg).take k)) (fun i _ => la.length - (intOf i).toNat)
    case atStart => exact ⟨0, Nat.zero_le _, rfl, Below.refl _ _, by simp [Hid]⟩
    case round =>
      obtain ⟨k, hk, rfl, hbw, ht⟩ := hrel
      by_cases hlt : k < la.length
      · have hltb : k < lb.length := by have := HL.out; omega
        obtain ⟨g, o, rfl, ca⟩ := Rd.below HA.out.1 hbw.out k hlt
        obtain ⟨g', o', rfl, cb⟩ := Rd.below HB.out.1 hbw.out k hltb
        have rx := (HA.out.2 la[k] (List.getElem_mem hlt)).below hbw.out
        have ry := (HB.out.2 lb[k] (List.getElem_mem hltb)).below hbw.out
        obtain ⟨x, hx⟩ : ∃ x, x = la[k] := ⟨_, rfl⟩
        obtain ⟨y, hy⟩ : ∃ y, y = lb[k] := ⟨_, rfl⟩
        rw [← hx] at ca rx
        rw [← hy] at cb ry
        have HX := Lib.hid hx
        have HY := Lib.hid hy
        have RX := Lib.hid rx
        have RY := Lib.hid ry
        clear hx hy rx ry
        have a0 : wr.cell? ⟨g, o + k * 11, none⟩ = some (.int .i64 x.k) := ca 0 _ rfl
        have a1 : wr.cell? ⟨g, o + k * 11 + 1, none⟩ = some (.int .i64 x.f) := ca 1 _ rfl
        have a2 : wr.cell? ⟨g, o + k * 11 + 2, none⟩ = some (.int .i64 x.v) := ca 2 _ rfl
        have a3 : wr.cell? ⟨g, o + k * 11 + 3, none⟩ = some (.int .i64 x.s) := ca 3 _ rfl
        have a4 : wr.cell? ⟨g, o + k * 11 + 4, none⟩ = some (.int .i64 x.r.c) := ca 4 _ rfl
        have a5 : wr.cell? ⟨g, o + k * 11 + 5, none⟩ = some (.int .i64 x.r.n) := ca 5 _ rfl
        have a6 : wr.cell? ⟨g, o + k * 11 + 6, none⟩ = some (.int .i64 x.r.o) := ca 6 _ rfl
        have a7 : wr.cell? ⟨g, o + k * 11 + 7, none⟩ = some (.int .i64 x.r.x) := ca 7 _ rfl
        have a8 : wr.cell? ⟨g, o + k * 11 + 8, none⟩ = some (.int .i64 x.r.y) := ca 8 _ rfl
        have a9 : wr.cell? ⟨g, o + k * 11 + 9, none⟩ = some (.slice x.A x.cl.length x.a) := ca 9 _ rfl
        have a10 : wr.cell? ⟨g, o + k * 11 + 10, none⟩ = some (.slice x.B x.vt.length x.b) := ca 10 _ rfl
        have b0 : wr.cell? ⟨g', o' + k * 11, none⟩ = some (.int .i64 y.k) := cb 0 _ rfl
        have b1 : wr.cell? ⟨g', o' + k * 11 + 1, none⟩ = some (.int .i64 y.f) := cb 1 _ rfl
        have b2 : wr.cell? ⟨g', o' + k * 11 + 2, none⟩ = some (.int .i64 y.v) := cb 2 _ rfl
        have b3 : wr.cell? ⟨g', o' + k * 11 + 3, none⟩ = some (.int .i64 y.s) := cb 3 _ rfl
        have b4 : wr.cell? ⟨g', o' + k * 11 + 4, none⟩ = some (.int .i64 y.r.c) := cb 4 _ rfl
        have b5 : wr.cell? ⟨g', o' + k * 11 + 5, none⟩ = some (.int .i64 y.r.n) := cb 5 _ rfl
        have b6 : wr.cell? ⟨g', o' + k * 11 + 6, none⟩ = some (.int .i64 y.r.o) := cb 6 _ rfl
        have b7 : wr.cell? ⟨g', o' + k * 11 + 7, none⟩ = some (.int .i64 y.r.x) := cb 7 _ rfl
        have b8 : wr.cell? ⟨g', o' + k * 11 + 8, none⟩ = some (.int .i64 y.r.y) := cb 8 _ rfl
        have b9 : wr.cell? ⟨g', o' + k * 11 + 9, none⟩ = some (.slice y.A y.cl.length y.a) := cb 9 _ rfl
        have b10 : wr.cell? ⟨g', o' + k * 11 + 10, none⟩ = some (.slice y.B y.vt.length y.b) := cb 10 _ rfl
        clear ca cb
        have i0 : (0 : Int) ≤ (k : Int) := by omega
        have i1 : (k : Int) < (la.length : Int) := by omega
        have i2 : (k : Int) < (lb.length : Int) := by omega
        by_cases hxy : MgP.mg x = MgP.mg y
        · have HE := Lib.hid hxy
          clear hxy
          go_wp2_with (fail)
          refine wp_region_still_tail 8 (by kernel_rfl) (by kernel_rfl) ?_
          change wpStill _ _ (World.drew _) (fun a' => wpList _ _ _ _ a' (World.drew _)) _ _
          simp only [List.take_succ_cons, List.take_zero, List.drop_succ_cons, List.drop_zero]
          repeat still_step
          refine wpStill_nil ?_
          go_wp2_with (fail)
          refine (eqMsg x y _ (RX.out.below (Below.refl _ _).drew) (RY.out.below (Below.refl _ _).drew)).mono ?_
          rintro e w1 ⟨rfl, h1⟩
          rw [decide_eq_true HE.out]
          go_wp2
          go_roundw
          case rel => exact ⟨k + 1, by omega, by go_num, Below.and hbw.out (Below.and (Below.refl _ _).drew h1), map_take_step hlt hltb ht.out (by rw [← HX.out, ← HY.out]; exact HE.out)⟩
          case measure => simp [intOf]; omega
        · have HE := Lib.hid hxy
          clear hxy
          go_wp2_with (fail)
          refine wp_region_still_tail 8 (by kernel_rfl) (by kernel_rfl) ?_
          change wpStill _ _ (World.drew _) (fun a' => wpList _ _ _ _ a' (World.drew _)) _ _
          simp only [List.take_succ_cons, List.take_zero, List.drop_succ_cons, List.drop_zero]
          repeat still_step
          refine wpStill_nil ?_
          go_wp2_with (fail)
          refine (eqMsg x y _ (RX.out.below (Below.refl _ _).drew) (RY.out.below (Below.refl _ _).drew)).mono ?_
          rintro e w1 ⟨rfl, h1⟩
          rw [decide_eq_false HE.out]
          go_wp2
          go_ret
          exact ⟨ret_bool (decide_eq_false (map_ne_of_at hlt hltb (by rw [← HX.out, ← HY.out]; exact HE.out))).symm, Below.and hbw.out (Below.and (Below.refl _ _).drew h1)⟩
      · have hz : k = la.length := by omega
        have HZ := Lib.hid hz
        clear hz
        go_wp2
        go_ret
        have h1 := ht.out
        rw [List.take_of_length_le (by simp; have := HZ.out; omega), List.take_of_length_le (by simp; have := HZ.out; have := HL.out; omega)] at h1
        exact ⟨ret_bool (decide_eq_true h1).symm, hbw.out⟩
  · have hl1 : ((la.length : Int) != (lb.length : Int)) = true := by simp; omega
    have HL := Lib.hid hl
    clear hl
    go_enter Try.func38, Try.ntmps38
    go_wp2
    go_ret
    exact ⟨ret_bool (decide_eq_false (fun e => HL.out (by have := congrArg List.length e; simpa using this))).symm, Below.refl _ _⟩

end Go.Proofs.Ytfelhnchnaggmaa
