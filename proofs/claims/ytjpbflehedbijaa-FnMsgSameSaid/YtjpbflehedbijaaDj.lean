/- The law of MsgSame: a letter is the same as itself. -/
import Derived.Test.YtjpbflehedbijaaDi
import Derived.Test.YtjpbflehedbijaaV
import Derived.Test.YtjpbflehedbijaaOg
import Derived.Test.YtjpbflehedbijaaMD
namespace Go.Proofs.Ytjpbflehedbijaa
open Go.ChangeShapes Go.WideShapes Go.ChangeAt Go.RowKit
set_option linter.unusedVariables false
set_option linter.unusedSimpArgs false

set_option maxRecDepth 100000 in
set_option maxHeartbeats 4000000 in
theorem lawMsgSame {w : World} {A : Option Addr} {n c : Nat} (hm : n ≤ maxLen) (hc : n ≤ c) (hb : InB w A n) :
    Calls Try.prog 3 #[.slice A n c] w fun e w' => e = .returned (.bool true) ∧ Below w.heap.size w w' := by
  unfold maxLen at hm
  have HB := Lib.hid hb
  clear hb
  go_enter Try.func3, Try.ntmps3
  by_cases hn : 1048576 < n
  · have e0 : (decide ((1048576 : Int) < (n : Int))) = true := by simp; omega
    go_wp2
    go_light
    go_ret
    exact ⟨rfl, Below.refl _ _⟩
  have e0 : (decide ((1048576 : Int) < (n : Int))) = false := by simp; omega
  go_wp2_with (fail)
  refine (drawMsgSame (by omega) hc HB.out).mono ?_
  rintro e w1 ⟨p, q, rfl, rp, rq, n1, n2, n3, n4, hbl⟩
  have BL := Lib.hid hbl
  have m1 : p.cl.length ≤ 1048576 := by omega
  have m2 : p.vt.length ≤ 1048576 := by omega
  have ZZ := below_alloc2 w1 (.cells #[.int .i64 p.k, .int .i64 p.f, .int .i64 p.v, .int .i64 p.s, .int .i64 p.r.c, .int .i64 p.r.n, .int .i64 p.r.o, .int .i64 p.r.x, .int .i64 p.r.y, .slice p.A p.cl.length p.a, .slice p.B p.vt.length p.b] 28) (.cells #[.int .i64 q.k, .int .i64 q.f, .int .i64 q.v, .int .i64 q.s, .int .i64 q.r.c, .int .i64 q.r.n, .int .i64 q.r.o, .int .i64 q.r.x, .int .i64 q.r.y, .slice q.A q.cl.length q.a, .slice q.B q.vt.length q.b] 28)
  have RP := Lib.hid (rp.below ZZ)
  have RQ := Lib.hid (rq.below ZZ)
  have BW := Lib.hid (Below.and BL.out ZZ)
  have KP : Hid (Blk ((w1.alloc (.cells #[.int .i64 p.k, .int .i64 p.f, .int .i64 p.v, .int .i64 p.s, .int .i64 p.r.c, .int .i64 p.r.n, .int .i64 p.r.o, .int .i64 p.r.x, .int .i64 p.r.y, .slice p.A p.cl.length p.a, .slice p.B p.vt.length p.b] 28)).alloc (.cells #[.int .i64 q.k, .int .i64 q.f, .int .i64 q.v, .int .i64 q.s, .int .i64 q.r.c, .int .i64 q.r.n, .int .i64 q.r.o, .int .i64 q.r.x, .int .i64 q.r.y, .slice q.A q.cl.length q.a, .slice q.B q.vt.length q.b] 28)) w1.heap.size 28 #[.int .i64 p.k, .int .i64 p.f, .int .i64 p.v, .int .i64 p.s, .int .i64 p.r.c, .int .i64 p.r.n, .int .i64 p.r.o, .int .i64 p.r.x, .int .i64 p.r.y, .slice p.A p.cl.length p.a, .slice p.B p.vt.length p.b]) := (Blk.new w1).alloc _
  have KQ : Hid (Blk ((w1.alloc (.cells #[.int .i64 p.k, .int .i64 p.f, .int .i64 p.v, .int .i64 p.s, .int .i64 p.r.c, .int .i64 p.r.n, .int .i64 p.r.o, .int .i64 p.r.x, .int .i64 p.r.y, .slice p.A p.cl.length p.a, .slice p.B p.vt.length p.b] 28)).alloc (.cells #[.int .i64 q.k, .int .i64 q.f, .int .i64 q.v, .int .i64 q.s, .int .i64 q.r.c, .int .i64 q.r.n, .int .i64 q.r.o, .int .i64 q.r.x, .int .i64 q.r.y, .slice q.A q.cl.length q.a, .slice q.B q.vt.length q.b] 28)) (w1.heap.size + 1) 28 #[.int .i64 q.k, .int .i64 q.f, .int .i64 q.v, .int .i64 q.s, .int .i64 q.r.c, .int .i64 q.r.n, .int .i64 q.r.o, .int .i64 q.r.x, .int .i64 q.r.y, .slice q.A q.cl.length q.a, .slice q.B q.vt.length q.b]) := by have := Blk.new (t := 28) (cs := #[.int .i64 q.k, .int .i64 q.f, .int .i64 q.v, .int .i64 q.s, .int .i64 q.r.c, .int .i64 q.r.n, .int .i64 q.r.o, .int .i64 q.r.x, .int .i64 q.r.y, .slice q.A q.cl.length q.a, .slice q.B q.vt.length q.b]) (w1.alloc (.cells #[.int .i64 p.k, .int .i64 p.f, .int .i64 p.v, .int .i64 p.s, .int .i64 p.r.c, .int .i64 p.r.n, .int .i64 p.r.o, .int .i64 p.r.x, .int .i64 p.r.y, .slice p.A p.cl.length p.a, .slice p.B p.vt.length p.b] 28)); simpa [Hid] using this
  clear hbl rp rq ZZ BL e0 hn
  obtain ⟨D, hD⟩ : ∃ D, decide (p.mg = q.mg) = D := ⟨_, rfl⟩
  obtain ⟨O, hO⟩ : ∃ O, okP p = O := ⟨_, rfl⟩
  have HD := Lib.hid hD
  have HO := Lib.hid hO
  clear hD hO
  go_wp2_with (fail)
  refine (msgSame p q _ RP.out RQ.out).mono ?_
  rintro e w4 ⟨he, hb⟩
  obtain rfl := he.trans (ret_bool HD.out)
  have RP := Lib.hid (RP.out.below hb)
  have RQ := Lib.hid (RQ.out.below hb)
  have BW := Lib.hid (Below.and BW.out hb)
  have KP := Lib.hid (KP.out.below hb)
  have KQ := Lib.hid (KQ.out.below hb)
  clear hb he
  have bb : (D != D) = false := by simp
  have bo : (O != O) = false := by simp
  have lp := KP.out.lt
  have lq := KQ.out.lt
  have x0 : w4.cell? ⟨w1.heap.size, 0, none⟩ = some (.int .i64 p.k) := KP.out.cell 0
  have x1 : w4.cell? ⟨w1.heap.size, 1, none⟩ = some (.int .i64 p.f) := KP.out.cell 1
  have x2 : w4.cell? ⟨w1.heap.size, 2, none⟩ = some (.int .i64 p.v) := KP.out.cell 2
  have x3 : w4.cell? ⟨w1.heap.size, 3, none⟩ = some (.int .i64 p.s) := KP.out.cell 3
  have x4 : w4.cell? ⟨w1.heap.size, 4, none⟩ = some (.int .i64 p.r.c) := KP.out.cell 4
  have x5 : w4.cell? ⟨w1.heap.size, 5, none⟩ = some (.int .i64 p.r.n) := KP.out.cell 5
  have x6 : w4.cell? ⟨w1.heap.size, 6, none⟩ = some (.int .i64 p.r.o) := KP.out.cell 6
  have x7 : w4.cell? ⟨w1.heap.size, 7, none⟩ = some (.int .i64 p.r.x) := KP.out.cell 7
  have x8 : w4.cell? ⟨w1.heap.size, 8, none⟩ = some (.int .i64 p.r.y) := KP.out.cell 8
  have x9 : w4.cell? ⟨w1.heap.size, 9, none⟩ = some (.slice p.A p.cl.length p.a) := KP.out.cell 9
  have x10 : w4.cell? ⟨w1.heap.size, 10, none⟩ = some (.slice p.B p.vt.length p.b) := KP.out.cell 10
  have y0 : w4.cell? ⟨w1.heap.size + 1, 0, none⟩ = some (.int .i64 q.k) := KQ.out.cell 0
  have y1 : w4.cell? ⟨w1.heap.size + 1, 1, none⟩ = some (.int .i64 q.f) := KQ.out.cell 1
  have y2 : w4.cell? ⟨w1.heap.size + 1, 2, none⟩ = some (.int .i64 q.v) := KQ.out.cell 2
  have y3 : w4.cell? ⟨w1.heap.size + 1, 3, none⟩ = some (.int .i64 q.s) := KQ.out.cell 3
  have y4 : w4.cell? ⟨w1.heap.size + 1, 4, none⟩ = some (.int .i64 q.r.c) := KQ.out.cell 4
  have y5 : w4.cell? ⟨w1.heap.size + 1, 5, none⟩ = some (.int .i64 q.r.n) := KQ.out.cell 5
  have y6 : w4.cell? ⟨w1.heap.size + 1, 6, none⟩ = some (.int .i64 q.r.o) := KQ.out.cell 6
  have y7 : w4.cell? ⟨w1.heap.size + 1, 7, none⟩ = some (.int .i64 q.r.x) := KQ.out.cell 7
  have y8 : w4.cell? ⟨w1.heap.size + 1, 8, none⟩ = some (.int .i64 q.r.y) := KQ.out.cell 8
  have y9 : w4.cell? ⟨w1.heap.size + 1, 9, none⟩ = some (.slice q.A q.cl.length q.a) := KQ.out.cell 9
  have y10 : w4.cell? ⟨w1.heap.size + 1, 10, none⟩ = some (.slice q.B q.vt.length q.b) := KQ.out.cell 10
  go_wp2_with (fail)
  refine wp_region_held_drew (S := fun w1 => Below w4.heap.size w4 w1) (by kernel_rfl) ((Below.refl _ _).drew) (fun hq => ?_)
  refine takeD 0 17 (v := ?_) rfl rfl (by kernel_rfl) (by kernel_rfl) (by kernel_rfl) (fun _ _ _ h => h) (Or.inl ⟨by rfl, ?_⟩) (by assumption) ?_
  rotate_left
  · intro w1 hSw; obtain ⟨hcS, hfS⟩ := bcell hSw; go_simp; (try with_reducible rfl)
  (try simp only [Act.put, List.setIfInBounds_toArray, List.set_cons_zero, List.set_cons_succ])
  refine takeD 1 18 (v := ?_) rfl rfl (by kernel_rfl) (by kernel_rfl) (by kernel_rfl) (fun _ _ _ h => h) (Or.inl ⟨by rfl, ?_⟩) (by assumption) ?_
  rotate_left
  · intro w1 hSw; obtain ⟨hcS, hfS⟩ := bcell hSw; go_simp; (try with_reducible rfl)
  (try simp only [Act.put, List.setIfInBounds_toArray, List.set_cons_zero, List.set_cons_succ])
  refine takeD 2 19 (v := ?_) rfl rfl (by kernel_rfl) (by kernel_rfl) (by kernel_rfl) (fun _ _ _ h => h) (Or.inl ⟨by rfl, ?_⟩) (by assumption) ?_
  rotate_left
  · intro w1 hSw; obtain ⟨hcS, hfS⟩ := bcell hSw; go_simp; (try with_reducible rfl)
  (try simp only [Act.put, List.setIfInBounds_toArray, List.set_cons_zero, List.set_cons_succ])
  refine wpAnyH_ready (rs := [3]) (by kernel_rfl) (by simp) ?_
  refine AllReadyH.cons rfl (fun K hK => ?_) AllReadyH.nil
  go_simp
  refine (specMsgSame p q _ (RP.out.below hq) (RQ.out.below hq)).mono ?_
  rintro e w5 ⟨rfl, hb⟩
  rw [HD.out]
  refine hK.out _ _ (Below.and hq hb) (fun hq2 => ?_)
  clear hK K
  (try simp only [Act.put, List.setIfInBounds_toArray, List.set_cons_zero, List.set_cons_succ])
  refine takeD 4 21 (v := ?_) rfl rfl (by kernel_rfl) (by kernel_rfl) (by kernel_rfl) (fun _ _ _ h => h) (Or.inl ⟨by rfl, ?_⟩) (by assumption) ?_
  rotate_left
  · intro w1 hSw; obtain ⟨hcS, hfS⟩ := bcell hSw; go_simp; (try with_reducible rfl)
  (try simp only [Act.put, List.setIfInBounds_toArray, List.set_cons_zero, List.set_cons_succ])
  refine takeD 5 22 (v := ?_) rfl rfl (by kernel_rfl) (by kernel_rfl) (by kernel_rfl) (fun _ _ _ h => h) (Or.inl ⟨by rfl, ?_⟩) (by assumption) ?_
  rotate_left
  · intro w1 hSw; obtain ⟨hcS, hfS⟩ := bcell hSw; go_simp; (try with_reducible rfl)
  (try simp only [Act.put, List.setIfInBounds_toArray, List.set_cons_zero, List.set_cons_succ])
  refine takeD 6 23 (v := ?_) rfl rfl (by kernel_rfl) (by kernel_rfl) (by kernel_rfl) (fun _ _ _ h => h) (Or.inl ⟨by rfl, ?_⟩) (by assumption) ?_
  rotate_left
  · intro w1 hSw; obtain ⟨hcS, hfS⟩ := bcell hSw; go_simp; (try with_reducible rfl)
  (try simp only [Act.put, List.setIfInBounds_toArray, List.set_cons_zero, List.set_cons_succ])
  refine takeD 8 25 (v := ?_) rfl rfl (by kernel_rfl) (by kernel_rfl) (by kernel_rfl) (fun _ _ _ h => h) (Or.inl ⟨by rfl, ?_⟩) (by assumption) ?_
  rotate_left
  · intro w1 hSw; obtain ⟨hcS, hfS⟩ := bcell hSw; go_simp; (try with_reducible rfl)
  (try simp only [Act.put, List.setIfInBounds_toArray, List.set_cons_zero, List.set_cons_succ])
  refine wpAnyH_ready (rs := [7]) (by kernel_rfl) (by simp) ?_
  refine AllReadyH.cons rfl (fun K hK => ?_) AllReadyH.nil
  go_simp
  refine (implMsgOk p _ (RP.out.below hq2)).mono ?_
  rintro e w6 ⟨rfl, hb⟩
  rw [HO.out]
  refine hK.out _ _ (Below.and hq2 hb) (fun hq3 => ?_)
  clear hK K
  (try simp only [Act.put, List.setIfInBounds_toArray, List.set_cons_zero, List.set_cons_succ])
  refine wpAnyH_ready (rs := [9]) (by kernel_rfl) (by simp) ?_
  refine AllReadyH.cons rfl (fun K hK => ?_) AllReadyH.nil
  go_simp
  refine (specMsgOk p _ m1 m2 (RP.out.below hq3)).mono ?_
  rintro e w7 ⟨rfl, hb⟩
  rw [HO.out]
  refine hK.out _ _ (Below.and hq3 hb) (fun hq4 => ?_)
  clear hK K
  (try simp only [Act.put, List.setIfInBounds_toArray, List.set_cons_zero, List.set_cons_succ])
  refine takeD 10 27 (v := ?_) rfl rfl (by kernel_rfl) (by kernel_rfl) (by kernel_rfl) (fun _ _ _ h => h) (Or.inl ⟨by rfl, ?_⟩) (by assumption) ?_
  rotate_left
  · intro w1 hSw; obtain ⟨hcS, hfS⟩ := bcell hSw; go_simp; (try with_reducible rfl)
  (try simp only [Act.put, List.setIfInBounds_toArray, List.set_cons_zero, List.set_cons_succ])
  refine takeD 11 28 (v := ?_) rfl rfl (by kernel_rfl) (by kernel_rfl) (by kernel_rfl) (fun _ _ _ h => h) (Or.inl ⟨by rfl, ?_⟩) (by assumption) ?_
  rotate_left
  · intro w1 hSw; obtain ⟨hcS, hfS⟩ := bcell hSw; go_simp; (try with_reducible rfl)
  (try simp only [Act.put, List.setIfInBounds_toArray, List.set_cons_zero, List.set_cons_succ])
  refine wpAnyH_done (by kernel_rfl) ?_ _
  have RP := Lib.hid (RP.out.below hq4)
  have RQ := Lib.hid (RQ.out.below hq4)
  have BW := Lib.hid (Below.and BW.out hq4)
  have KP := Lib.hid (KP.out.below hq4)
  have KQ := Lib.hid (KQ.out.below hq4)
  have lp := KP.out.lt
  have lq := KQ.out.lt
  clear x0 x1 x2 x3 x4 x5 x6 x7 x8 x9 x10
  clear y0 y1 y2 y3 y4 y5 y6 y7 y8 y9 y10
  clear hq hq2 hq3 hq4
  have x0 : w7.cell? ⟨w1.heap.size, 0, none⟩ = some (.int .i64 p.k) := KP.out.cell 0
  have x1 : w7.cell? ⟨w1.heap.size, 1, none⟩ = some (.int .i64 p.f) := KP.out.cell 1
  have x2 : w7.cell? ⟨w1.heap.size, 2, none⟩ = some (.int .i64 p.v) := KP.out.cell 2
  have x3 : w7.cell? ⟨w1.heap.size, 3, none⟩ = some (.int .i64 p.s) := KP.out.cell 3
  have x4 : w7.cell? ⟨w1.heap.size, 4, none⟩ = some (.int .i64 p.r.c) := KP.out.cell 4
  have x5 : w7.cell? ⟨w1.heap.size, 5, none⟩ = some (.int .i64 p.r.n) := KP.out.cell 5
  have x6 : w7.cell? ⟨w1.heap.size, 6, none⟩ = some (.int .i64 p.r.o) := KP.out.cell 6
  have x7 : w7.cell? ⟨w1.heap.size, 7, none⟩ = some (.int .i64 p.r.x) := KP.out.cell 7
  have x8 : w7.cell? ⟨w1.heap.size, 8, none⟩ = some (.int .i64 p.r.y) := KP.out.cell 8
  have x9 : w7.cell? ⟨w1.heap.size, 9, none⟩ = some (.slice p.A p.cl.length p.a) := KP.out.cell 9
  have x10 : w7.cell? ⟨w1.heap.size, 10, none⟩ = some (.slice p.B p.vt.length p.b) := KP.out.cell 10
  have y0 : w7.cell? ⟨w1.heap.size + 1, 0, none⟩ = some (.int .i64 q.k) := KQ.out.cell 0
  have y1 : w7.cell? ⟨w1.heap.size + 1, 1, none⟩ = some (.int .i64 q.f) := KQ.out.cell 1
  have y2 : w7.cell? ⟨w1.heap.size + 1, 2, none⟩ = some (.int .i64 q.v) := KQ.out.cell 2
  have y3 : w7.cell? ⟨w1.heap.size + 1, 3, none⟩ = some (.int .i64 q.s) := KQ.out.cell 3
  have y4 : w7.cell? ⟨w1.heap.size + 1, 4, none⟩ = some (.int .i64 q.r.c) := KQ.out.cell 4
  have y5 : w7.cell? ⟨w1.heap.size + 1, 5, none⟩ = some (.int .i64 q.r.n) := KQ.out.cell 5
  have y6 : w7.cell? ⟨w1.heap.size + 1, 6, none⟩ = some (.int .i64 q.r.o) := KQ.out.cell 6
  have y7 : w7.cell? ⟨w1.heap.size + 1, 7, none⟩ = some (.int .i64 q.r.x) := KQ.out.cell 7
  have y8 : w7.cell? ⟨w1.heap.size + 1, 8, none⟩ = some (.int .i64 q.r.y) := KQ.out.cell 8
  have y9 : w7.cell? ⟨w1.heap.size + 1, 9, none⟩ = some (.slice q.A q.cl.length q.a) := KQ.out.cell 9
  have y10 : w7.cell? ⟨w1.heap.size + 1, 10, none⟩ = some (.slice q.B q.vt.length q.b) := KQ.out.cell 10
  rcases D with _ | _
  · go_wp2_with (fail)
    refine wp_region_held_drew (S := fun w1 => Below w7.heap.size w7 w1) (by kernel_rfl) ((Below.refl _ _).drew) (fun hr => ?_)
    refine takeD 0 29 (v := ?_) rfl rfl (by kernel_rfl) (by kernel_rfl) (by kernel_rfl) (fun _ _ _ h => h) (Or.inl ⟨by rfl, ?_⟩) (by assumption) ?_
    rotate_left
    · intro w1 hSw; obtain ⟨hcS, hfS⟩ := bcell hSw; go_simp; (try with_reducible rfl)
    (try simp only [Act.put, List.setIfInBounds_toArray, List.set_cons_zero, List.set_cons_succ])
    refine takeD 1 30 (v := ?_) rfl rfl (by kernel_rfl) (by kernel_rfl) (by kernel_rfl) (fun _ _ _ h => h) (Or.inl ⟨by rfl, ?_⟩) (by assumption) ?_
    rotate_left
    · intro w1 hSw; obtain ⟨hcS, hfS⟩ := bcell hSw; go_simp; (try with_reducible rfl)
    (try simp only [Act.put, List.setIfInBounds_toArray, List.set_cons_zero, List.set_cons_succ])
    refine wpAnyH_ready (rs := [2]) (by kernel_rfl) (by simp) ?_
    refine AllReadyH.cons rfl (fun K hK => ?_) AllReadyH.nil
    go_simp
    refine (msgSame p p _ (RP.out.below hr) (RP.out.below hr)).mono ?_
    rintro e w9 ⟨he, hb⟩
    obtain rfl := he.trans (ret_bool (show decide (p.mg = p.mg) = true from decide_eq_true rfl))
    refine hK.out _ _ (Below.and hr hb) (fun hr2 => ?_)
    clear hK K
    (try simp only [Act.put, List.setIfInBounds_toArray, List.set_cons_zero, List.set_cons_succ])
    refine takeD 3 32 (v := ?_) rfl rfl (by kernel_rfl) (by kernel_rfl) (by kernel_rfl) (fun _ _ _ h => h) (Or.inl ⟨by rfl, ?_⟩) (by assumption) ?_
    rotate_left
    · intro w1 hSw; obtain ⟨hcS, hfS⟩ := bcell hSw; go_simp; (try with_reducible rfl)
    (try simp only [Act.put, List.setIfInBounds_toArray, List.set_cons_zero, List.set_cons_succ])
    refine takeD 4 33 (v := ?_) rfl rfl (by kernel_rfl) (by kernel_rfl) (by kernel_rfl) (fun _ _ _ h => h) (Or.inl ⟨by rfl, ?_⟩) (by assumption) ?_
    rotate_left
    · intro w1 hSw; obtain ⟨hcS, hfS⟩ := bcell hSw; go_simp; (try with_reducible rfl)
    (try simp only [Act.put, List.setIfInBounds_toArray, List.set_cons_zero, List.set_cons_succ])
    refine takeD 5 34 (v := ?_) rfl rfl (by kernel_rfl) (by kernel_rfl) (by kernel_rfl) (fun _ _ _ h => h) (Or.inl ⟨by rfl, ?_⟩) (by assumption) ?_
    rotate_left
    · intro w1 hSw; obtain ⟨hcS, hfS⟩ := bcell hSw; go_simp; (try with_reducible rfl)
    (try simp only [Act.put, List.setIfInBounds_toArray, List.set_cons_zero, List.set_cons_succ])
    refine takeD 7 36 (v := ?_) rfl rfl (by kernel_rfl) (by kernel_rfl) (by kernel_rfl) (fun _ _ _ h => h) (Or.inl ⟨by rfl, ?_⟩) (by assumption) ?_
    rotate_left
    · intro w1 hSw; obtain ⟨hcS, hfS⟩ := bcell hSw; go_simp; (try with_reducible rfl)
    (try simp only [Act.put, List.setIfInBounds_toArray, List.set_cons_zero, List.set_cons_succ])
    refine wpAnyH_ready (rs := [6]) (by kernel_rfl) (by simp) ?_
    refine AllReadyH.cons rfl (fun K hK => ?_) AllReadyH.nil
    go_simp
    refine (msgSame q p _ (RQ.out.below hr2) (RP.out.below hr2)).mono ?_
    rintro e w10 ⟨he, hb⟩
    obtain rfl := he.trans (ret_bool (show decide (q.mg = p.mg) = false from (decide_eq_decide.2 eq_comm).trans HD.out))
    refine hK.out _ _ (Below.and hr2 hb) (fun hr3 => ?_)
    clear hK K
    (try simp only [Act.put, List.setIfInBounds_toArray, List.set_cons_zero, List.set_cons_succ])
    refine takeD 8 37 (v := ?_) rfl rfl (by kernel_rfl) (by kernel_rfl) (by kernel_rfl) (fun _ _ _ h => h) (Or.inl ⟨by rfl, ?_⟩) (by assumption) ?_
    rotate_left
    · intro w1 hSw; obtain ⟨hcS, hfS⟩ := bcell hSw; go_simp; (try with_reducible rfl)
    (try simp only [Act.put, List.setIfInBounds_toArray, List.set_cons_zero, List.set_cons_succ])
    refine takeD 9 38 (v := ?_) rfl rfl (by kernel_rfl) (by kernel_rfl) (by kernel_rfl) (fun _ _ _ h => h) (Or.inl ⟨by rfl, ?_⟩) (by assumption) ?_
    rotate_left
    · intro w1 hSw; obtain ⟨hcS, hfS⟩ := bcell hSw; go_simp; (try with_reducible rfl)
    (try simp only [Act.put, List.setIfInBounds_toArray, List.set_cons_zero, List.set_cons_succ])
    refine takeD 10 39 (v := ?_) rfl rfl (by kernel_rfl) (by kernel_rfl) (by kernel_rfl) (fun _ _ _ h => h) (Or.inl ⟨by rfl, ?_⟩) (by assumption) ?_
    rotate_left
    · intro w1 hSw; obtain ⟨hcS, hfS⟩ := bcell hSw; go_simp; (try with_reducible rfl)
    (try simp only [Act.put, List.setIfInBounds_toArray, List.set_cons_zero, List.set_cons_succ])
    refine takeD 11 40 (v := ?_) rfl rfl (by kernel_rfl) (by kernel_rfl) (by kernel_rfl) (fun _ _ _ h => h) (Or.inl ⟨by rfl, ?_⟩) (by assumption) ?_
    rotate_left
    · intro w1 hSw; obtain ⟨hcS, hfS⟩ := bcell hSw; go_simp; (try with_reducible rfl)
    (try simp only [Act.put, List.setIfInBounds_toArray, List.set_cons_zero, List.set_cons_succ])
    refine takeD 12 41 (v := ?_) rfl rfl (by kernel_rfl) (by kernel_rfl) (by kernel_rfl) (fun _ _ _ h => h) (Or.inl ⟨by rfl, ?_⟩) (by assumption) ?_
    rotate_left
    · intro w1 hSw; obtain ⟨hcS, hfS⟩ := bcell hSw; go_simp; (try with_reducible rfl)
    (try simp only [Act.put, List.setIfInBounds_toArray, List.set_cons_zero, List.set_cons_succ])
    refine takeD 13 42 (v := ?_) rfl rfl (by kernel_rfl) (by kernel_rfl) (by kernel_rfl) (fun _ _ _ h => h) (Or.inl ⟨by rfl, ?_⟩) (by assumption) ?_
    rotate_left
    · intro w1 hSw; obtain ⟨hcS, hfS⟩ := bcell hSw; go_simp; (try with_reducible rfl)
    (try simp only [Act.put, List.setIfInBounds_toArray, List.set_cons_zero, List.set_cons_succ])
    refine takeD 14 43 (v := undef) rfl rfl (by kernel_rfl) (by kernel_rfl) (by kernel_rfl) (fun _ _ _ h => h) (Or.inr ⟨by rfl, rfl⟩) (by assumption) ?_
    (try simp only [Act.put, List.setIfInBounds_toArray, List.set_cons_zero, List.set_cons_succ])
    refine takeD 15 44 (v := undef) rfl rfl (by kernel_rfl) (by kernel_rfl) (by kernel_rfl) (fun _ _ _ h => h) (Or.inr ⟨by rfl, rfl⟩) (by assumption) ?_
    (try simp only [Act.put, List.setIfInBounds_toArray, List.set_cons_zero, List.set_cons_succ])
    refine takeD 16 45 (v := undef) rfl rfl (by kernel_rfl) (by kernel_rfl) (by kernel_rfl) (fun _ _ _ h => h) (Or.inr ⟨by rfl, rfl⟩) (by assumption) ?_
    (try simp only [Act.put, List.setIfInBounds_toArray, List.set_cons_zero, List.set_cons_succ])
    refine takeD 17 46 (v := undef) rfl rfl (by kernel_rfl) (by kernel_rfl) (by kernel_rfl) (fun _ _ _ h => h) (Or.inr ⟨by rfl, rfl⟩) (by assumption) ?_
    (try simp only [Act.put, List.setIfInBounds_toArray, List.set_cons_zero, List.set_cons_succ])
    refine takeD 18 47 (v := undef) rfl rfl (by kernel_rfl) (by kernel_rfl) (by kernel_rfl) (fun _ _ _ h => h) (Or.inr ⟨by rfl, rfl⟩) (by assumption) ?_
    (try simp only [Act.put, List.setIfInBounds_toArray, List.set_cons_zero, List.set_cons_succ])
    refine takeD 19 48 (v := ?_) rfl rfl (by kernel_rfl) (by kernel_rfl) (by kernel_rfl) (fun _ _ _ h => h) (Or.inl ⟨by rfl, ?_⟩) (by assumption) ?_
    rotate_left
    · intro w1 hSw; obtain ⟨hcS, hfS⟩ := bcell hSw; go_simp; (try with_reducible rfl)
    (try simp only [Act.put, List.setIfInBounds_toArray, List.set_cons_zero, List.set_cons_succ])
    refine takeD 20 49 (v := ?_) rfl rfl (by kernel_rfl) (by kernel_rfl) (by kernel_rfl) (fun _ _ _ h => h) (Or.inl ⟨by rfl, ?_⟩) (by assumption) ?_
    rotate_left
    · intro w1 hSw; obtain ⟨hcS, hfS⟩ := bcell hSw; go_simp; (try with_reducible rfl)
    (try simp only [Act.put, List.setIfInBounds_toArray, List.set_cons_zero, List.set_cons_succ])
    refine takeD 21 2 (v := ?_) rfl rfl (by kernel_rfl) (by kernel_rfl) (by kernel_rfl) (fun _ _ _ h => h) (Or.inl ⟨by rfl, ?_⟩) (by assumption) ?_
    rotate_left
    · intro w1 hSw; obtain ⟨hcS, hfS⟩ := bcell hSw; go_simp; (try with_reducible rfl)
    (try simp only [Act.put, List.setIfInBounds_toArray, List.set_cons_zero, List.set_cons_succ])
    refine wpAnyH_done (by kernel_rfl) ?_ _
    have BW := Lib.hid (Below.and BW.out hr3)
    go_wp2
    go_light
    go_ret
    exact ⟨rfl, BW.out⟩
  · have HOQ : Hid (okP q = O) := (okP_congr (of_decide_eq_true HD.out)).symm.trans HO.out
    have oo : (O == O) = true := by simp
    go_wp2_with (fail)
    refine wp_region_held_drew (S := fun w1 => Below w7.heap.size w7 w1) (by kernel_rfl) ((Below.refl _ _).drew) (fun hr => ?_)
    refine takeD 0 29 (v := ?_) rfl rfl (by kernel_rfl) (by kernel_rfl) (by kernel_rfl) (fun _ _ _ h => h) (Or.inl ⟨by rfl, ?_⟩) (by assumption) ?_
    rotate_left
    · intro w1 hSw; obtain ⟨hcS, hfS⟩ := bcell hSw; go_simp; (try with_reducible rfl)
    (try simp only [Act.put, List.setIfInBounds_toArray, List.set_cons_zero, List.set_cons_succ])
    refine takeD 1 30 (v := ?_) rfl rfl (by kernel_rfl) (by kernel_rfl) (by kernel_rfl) (fun _ _ _ h => h) (Or.inl ⟨by rfl, ?_⟩) (by assumption) ?_
    rotate_left
    · intro w1 hSw; obtain ⟨hcS, hfS⟩ := bcell hSw; go_simp; (try with_reducible rfl)
    (try simp only [Act.put, List.setIfInBounds_toArray, List.set_cons_zero, List.set_cons_succ])
    refine wpAnyH_ready (rs := [2]) (by kernel_rfl) (by simp) ?_
    refine AllReadyH.cons rfl (fun K hK => ?_) AllReadyH.nil
    go_simp
    refine (msgSame p p _ (RP.out.below hr) (RP.out.below hr)).mono ?_
    rintro e w9 ⟨he, hb⟩
    obtain rfl := he.trans (ret_bool (show decide (p.mg = p.mg) = true from decide_eq_true rfl))
    refine hK.out _ _ (Below.and hr hb) (fun hr2 => ?_)
    clear hK K
    (try simp only [Act.put, List.setIfInBounds_toArray, List.set_cons_zero, List.set_cons_succ])
    refine takeD 3 32 (v := ?_) rfl rfl (by kernel_rfl) (by kernel_rfl) (by kernel_rfl) (fun _ _ _ h => h) (Or.inl ⟨by rfl, ?_⟩) (by assumption) ?_
    rotate_left
    · intro w1 hSw; obtain ⟨hcS, hfS⟩ := bcell hSw; go_simp; (try with_reducible rfl)
    (try simp only [Act.put, List.setIfInBounds_toArray, List.set_cons_zero, List.set_cons_succ])
    refine takeD 4 33 (v := ?_) rfl rfl (by kernel_rfl) (by kernel_rfl) (by kernel_rfl) (fun _ _ _ h => h) (Or.inl ⟨by rfl, ?_⟩) (by assumption) ?_
    rotate_left
    · intro w1 hSw; obtain ⟨hcS, hfS⟩ := bcell hSw; go_simp; (try with_reducible rfl)
    (try simp only [Act.put, List.setIfInBounds_toArray, List.set_cons_zero, List.set_cons_succ])
    refine takeD 5 34 (v := ?_) rfl rfl (by kernel_rfl) (by kernel_rfl) (by kernel_rfl) (fun _ _ _ h => h) (Or.inl ⟨by rfl, ?_⟩) (by assumption) ?_
    rotate_left
    · intro w1 hSw; obtain ⟨hcS, hfS⟩ := bcell hSw; go_simp; (try with_reducible rfl)
    (try simp only [Act.put, List.setIfInBounds_toArray, List.set_cons_zero, List.set_cons_succ])
    refine takeD 7 36 (v := ?_) rfl rfl (by kernel_rfl) (by kernel_rfl) (by kernel_rfl) (fun _ _ _ h => h) (Or.inl ⟨by rfl, ?_⟩) (by assumption) ?_
    rotate_left
    · intro w1 hSw; obtain ⟨hcS, hfS⟩ := bcell hSw; go_simp; (try with_reducible rfl)
    (try simp only [Act.put, List.setIfInBounds_toArray, List.set_cons_zero, List.set_cons_succ])
    refine wpAnyH_ready (rs := [6]) (by kernel_rfl) (by simp) ?_
    refine AllReadyH.cons rfl (fun K hK => ?_) AllReadyH.nil
    go_simp
    refine (msgSame q p _ (RQ.out.below hr2) (RP.out.below hr2)).mono ?_
    rintro e w10 ⟨he, hb⟩
    obtain rfl := he.trans (ret_bool (show decide (q.mg = p.mg) = true from (decide_eq_decide.2 eq_comm).trans HD.out))
    refine hK.out _ _ (Below.and hr2 hb) (fun hr3 => ?_)
    clear hK K
    (try simp only [Act.put, List.setIfInBounds_toArray, List.set_cons_zero, List.set_cons_succ])
    refine takeD 8 37 (v := ?_) rfl rfl (by kernel_rfl) (by kernel_rfl) (by kernel_rfl) (fun _ _ _ h => h) (Or.inl ⟨by rfl, ?_⟩) (by assumption) ?_
    rotate_left
    · intro w1 hSw; obtain ⟨hcS, hfS⟩ := bcell hSw; go_simp; (try with_reducible rfl)
    (try simp only [Act.put, List.setIfInBounds_toArray, List.set_cons_zero, List.set_cons_succ])
    refine takeD 9 38 (v := ?_) rfl rfl (by kernel_rfl) (by kernel_rfl) (by kernel_rfl) (fun _ _ _ h => h) (Or.inl ⟨by rfl, ?_⟩) (by assumption) ?_
    rotate_left
    · intro w1 hSw; obtain ⟨hcS, hfS⟩ := bcell hSw; go_simp; (try with_reducible rfl)
    (try simp only [Act.put, List.setIfInBounds_toArray, List.set_cons_zero, List.set_cons_succ])
    refine takeD 10 39 (v := ?_) rfl rfl (by kernel_rfl) (by kernel_rfl) (by kernel_rfl) (fun _ _ _ h => h) (Or.inl ⟨by rfl, ?_⟩) (by assumption) ?_
    rotate_left
    · intro w1 hSw; obtain ⟨hcS, hfS⟩ := bcell hSw; go_simp; (try with_reducible rfl)
    (try simp only [Act.put, List.setIfInBounds_toArray, List.set_cons_zero, List.set_cons_succ])
    refine takeD 11 40 (v := ?_) rfl rfl (by kernel_rfl) (by kernel_rfl) (by kernel_rfl) (fun _ _ _ h => h) (Or.inl ⟨by rfl, ?_⟩) (by assumption) ?_
    rotate_left
    · intro w1 hSw; obtain ⟨hcS, hfS⟩ := bcell hSw; go_simp; (try with_reducible rfl)
    (try simp only [Act.put, List.setIfInBounds_toArray, List.set_cons_zero, List.set_cons_succ])
    refine takeD 12 41 (v := ?_) rfl rfl (by kernel_rfl) (by kernel_rfl) (by kernel_rfl) (fun _ _ _ h => h) (Or.inl ⟨by rfl, ?_⟩) (by assumption) ?_
    rotate_left
    · intro w1 hSw; obtain ⟨hcS, hfS⟩ := bcell hSw; go_simp; (try with_reducible rfl)
    (try simp only [Act.put, List.setIfInBounds_toArray, List.set_cons_zero, List.set_cons_succ])
    refine takeD 13 42 (v := ?_) rfl rfl (by kernel_rfl) (by kernel_rfl) (by kernel_rfl) (fun _ _ _ h => h) (Or.inl ⟨by rfl, ?_⟩) (by assumption) ?_
    rotate_left
    · intro w1 hSw; obtain ⟨hcS, hfS⟩ := bcell hSw; go_simp; (try with_reducible rfl)
    (try simp only [Act.put, List.setIfInBounds_toArray, List.set_cons_zero, List.set_cons_succ])
    refine takeD 14 43 (v := ?_) rfl rfl (by kernel_rfl) (by kernel_rfl) (by kernel_rfl) (fun _ _ _ h => h) (Or.inl ⟨by rfl, ?_⟩) (by assumption) ?_
    rotate_left
    · intro w1 hSw; obtain ⟨hcS, hfS⟩ := bcell hSw; go_simp; (try with_reducible rfl)
    (try simp only [Act.put, List.setIfInBounds_toArray, List.set_cons_zero, List.set_cons_succ])
    refine takeD 16 45 (v := ?_) rfl rfl (by kernel_rfl) (by kernel_rfl) (by kernel_rfl) (fun _ _ _ h => h) (Or.inl ⟨by rfl, ?_⟩) (by assumption) ?_
    rotate_left
    · intro w1 hSw; obtain ⟨hcS, hfS⟩ := bcell hSw; go_simp; (try with_reducible rfl)
    (try simp only [Act.put, List.setIfInBounds_toArray, List.set_cons_zero, List.set_cons_succ])
    refine wpAnyH_ready (rs := [15]) (by kernel_rfl) (by simp) ?_
    refine AllReadyH.cons rfl (fun K hK => ?_) AllReadyH.nil
    go_simp
    refine (implMsgOk p _ (RP.out.below hr3)).mono ?_
    rintro e w11 ⟨rfl, hb⟩
    rw [HO.out]
    refine hK.out _ _ (Below.and hr3 hb) (fun hr4 => ?_)
    clear hK K
    (try simp only [Act.put, List.setIfInBounds_toArray, List.set_cons_zero, List.set_cons_succ])
    refine wpAnyH_ready (rs := [17]) (by kernel_rfl) (by simp) ?_
    refine AllReadyH.cons rfl (fun K hK => ?_) AllReadyH.nil
    go_simp
    refine (implMsgOk q _ (RQ.out.below hr4)).mono ?_
    rintro e w12 ⟨he, hb⟩
    obtain rfl := he.trans (ret_bool (show okP q = O from HOQ.out))
    refine hK.out _ _ (Below.and hr4 hb) (fun hr5 => ?_)
    clear hK K
    (try simp only [Act.put, List.setIfInBounds_toArray, List.set_cons_zero, List.set_cons_succ])
    refine takeD 18 47 (v := ?_) rfl rfl (by kernel_rfl) (by kernel_rfl) (by kernel_rfl) (fun _ _ _ h => h) (Or.inl ⟨by rfl, ?_⟩) (by assumption) ?_
    rotate_left
    · intro w1 hSw; obtain ⟨hcS, hfS⟩ := bcell hSw; go_simp; (try with_reducible rfl)
    (try simp only [Act.put, List.setIfInBounds_toArray, List.set_cons_zero, List.set_cons_succ])
    refine takeD 19 48 (v := ?_) rfl rfl (by kernel_rfl) (by kernel_rfl) (by kernel_rfl) (fun _ _ _ h => h) (Or.inl ⟨by rfl, ?_⟩) (by assumption) ?_
    rotate_left
    · intro w1 hSw; obtain ⟨hcS, hfS⟩ := bcell hSw; go_simp; (try with_reducible rfl)
    (try simp only [Act.put, List.setIfInBounds_toArray, List.set_cons_zero, List.set_cons_succ])
    refine takeD 20 49 (v := ?_) rfl rfl (by kernel_rfl) (by kernel_rfl) (by kernel_rfl) (fun _ _ _ h => h) (Or.inl ⟨by rfl, ?_⟩) (by assumption) ?_
    rotate_left
    · intro w1 hSw; obtain ⟨hcS, hfS⟩ := bcell hSw; go_simp; (try with_reducible rfl)
    (try simp only [Act.put, List.setIfInBounds_toArray, List.set_cons_zero, List.set_cons_succ])
    refine takeD 21 2 (v := ?_) rfl rfl (by kernel_rfl) (by kernel_rfl) (by kernel_rfl) (fun _ _ _ h => h) (Or.inl ⟨by rfl, ?_⟩) (by assumption) ?_
    rotate_left
    · intro w1 hSw; obtain ⟨hcS, hfS⟩ := bcell hSw; go_simp; (try with_reducible rfl)
    (try simp only [Act.put, List.setIfInBounds_toArray, List.set_cons_zero, List.set_cons_succ])
    refine wpAnyH_done (by kernel_rfl) ?_ _
    have BW := Lib.hid (Below.and BW.out hr5)
    go_wp2
    go_light
    go_ret
    exact ⟨ret_bool (by have := (of_decide_eq_true HD.out).symm; simp [this]), BW.out⟩

end Go.Proofs.Ytjpbflehedbijaa
