/- The exact law of MsgSame, walked. -/
import Derived.Test.YtephmhgjhjheaaaUid
import Derived.Test.YtephmhgjhjheaaaUn
import Derived.Test.YtephmhgjhjheaaaUo
namespace Go.Proofs.Ytephmhgjhjheaaa
open Go.ChangeShapes Go.WideShapes Go.ChangeAt Go.RowKit
set_option linter.unusedVariables false

theorem specMsgSame (p q : MgP) (w : World) (hp : p.rd w) (hq : q.rd w) :
    Calls Try.prog 39 #[p.val, q.val] w fun e w' => e = .returned (.bool (decide (p.mg = q.mg))) ∧ Below w.heap.size w w' := by
  have Z := below_alloc2 w (.cells #[.int .i64 p.k, .int .i64 p.f, .int .i64 p.v, .int .i64 p.s, .int .i64 p.r.c, .int .i64 p.r.n, .int .i64 p.r.o, .int .i64 p.r.x, .int .i64 p.r.y, .slice p.A p.cl.length p.a, .slice p.B p.vt.length p.b] 49) (.cells #[.int .i64 q.k, .int .i64 q.f, .int .i64 q.v, .int .i64 q.s, .int .i64 q.r.c, .int .i64 q.r.n, .int .i64 q.r.o, .int .i64 q.r.x, .int .i64 q.r.y, .slice q.A q.cl.length q.a, .slice q.B q.vt.length q.b] 49)
  have HP := Lib.hid (hp.below Z)
  have HQ := Lib.hid (hq.below Z)
  have ZZ := Lib.hid Z
  clear hp hq Z
  go_enter Try.func39, Try.ntmps39
  go_wp2_with (fail)
  refine (l3Same p q _ HP.out HQ.out).mono ?_
  rintro e w1 ⟨rfl, hb⟩
  go_wp2
  go_light
  go_ret
  exact ⟨rfl, Below.and ZZ.out hb⟩

theorem szR_neg {left : Int} {n : Nat} (h0 : 0 ≤ left) (h : ¬ szR left n < 0) : (n : Int) ≤ left ∧ szR left n = left - n := by
  unfold szR at h ⊢
  split at h
  · rename_i h1; exact ⟨h1, if_pos h1⟩
  · omega

set_option maxRecDepth 100000 in
set_option maxHeartbeats 4000000 in
theorem exactMsgSame (p q : MgP) (w : World) (hp : p.rd w) (hq : q.rd w) :
    Calls Try.prog 14 #[p.val, q.val] w fun e w' => e = .returned (.bool true) ∧ Below w.heap.size w w' := by
  have BW := Lib.hid (below_alloc2 w (.cells #[.int .i64 p.k, .int .i64 p.f, .int .i64 p.v, .int .i64 p.s, .int .i64 p.r.c, .int .i64 p.r.n, .int .i64 p.r.o, .int .i64 p.r.x, .int .i64 p.r.y, .slice p.A p.cl.length p.a, .slice p.B p.vt.length p.b] 79) (.cells #[.int .i64 q.k, .int .i64 q.f, .int .i64 q.v, .int .i64 q.s, .int .i64 q.r.c, .int .i64 q.r.n, .int .i64 q.r.o, .int .i64 q.r.x, .int .i64 q.r.y, .slice q.A q.cl.length q.a, .slice q.B q.vt.length q.b] 79))
  have KP : Hid (Blk ((w.alloc (.cells #[.int .i64 p.k, .int .i64 p.f, .int .i64 p.v, .int .i64 p.s, .int .i64 p.r.c, .int .i64 p.r.n, .int .i64 p.r.o, .int .i64 p.r.x, .int .i64 p.r.y, .slice p.A p.cl.length p.a, .slice p.B p.vt.length p.b] 79)).alloc (.cells #[.int .i64 q.k, .int .i64 q.f, .int .i64 q.v, .int .i64 q.s, .int .i64 q.r.c, .int .i64 q.r.n, .int .i64 q.r.o, .int .i64 q.r.x, .int .i64 q.r.y, .slice q.A q.cl.length q.a, .slice q.B q.vt.length q.b] 79)) w.heap.size 79 #[.int .i64 p.k, .int .i64 p.f, .int .i64 p.v, .int .i64 p.s, .int .i64 p.r.c, .int .i64 p.r.n, .int .i64 p.r.o, .int .i64 p.r.x, .int .i64 p.r.y, .slice p.A p.cl.length p.a, .slice p.B p.vt.length p.b]) := (Blk.new w).alloc _
  have KQ : Hid (Blk ((w.alloc (.cells #[.int .i64 p.k, .int .i64 p.f, .int .i64 p.v, .int .i64 p.s, .int .i64 p.r.c, .int .i64 p.r.n, .int .i64 p.r.o, .int .i64 p.r.x, .int .i64 p.r.y, .slice p.A p.cl.length p.a, .slice p.B p.vt.length p.b] 79)).alloc (.cells #[.int .i64 q.k, .int .i64 q.f, .int .i64 q.v, .int .i64 q.s, .int .i64 q.r.c, .int .i64 q.r.n, .int .i64 q.r.o, .int .i64 q.r.x, .int .i64 q.r.y, .slice q.A q.cl.length q.a, .slice q.B q.vt.length q.b] 79)) (w.heap.size + 1) 79 #[.int .i64 q.k, .int .i64 q.f, .int .i64 q.v, .int .i64 q.s, .int .i64 q.r.c, .int .i64 q.r.n, .int .i64 q.r.o, .int .i64 q.r.x, .int .i64 q.r.y, .slice q.A q.cl.length q.a, .slice q.B q.vt.length q.b]) := by have := Blk.new (t := 79) (cs := #[.int .i64 q.k, .int .i64 q.f, .int .i64 q.v, .int .i64 q.s, .int .i64 q.r.c, .int .i64 q.r.n, .int .i64 q.r.o, .int .i64 q.r.x, .int .i64 q.r.y, .slice q.A q.cl.length q.a, .slice q.B q.vt.length q.b]) (w.alloc (.cells #[.int .i64 p.k, .int .i64 p.f, .int .i64 p.v, .int .i64 p.s, .int .i64 p.r.c, .int .i64 p.r.n, .int .i64 p.r.o, .int .i64 p.r.x, .int .i64 p.r.y, .slice p.A p.cl.length p.a, .slice p.B p.vt.length p.b] 79)); simpa [Hid] using this
  have PR := Lib.hid hp
  have QR := Lib.hid hq
  clear hp hq
  go_enter Try.func14, Try.ntmps14
  go_wp2_with (fail)
  refine (szMsg p 1048576 _ (PR.out.below BW.out) (by omega) (by omega)).mono ?_
  rintro e w1 ⟨rfl, hb⟩
  have BW := Lib.hid (Below.and BW.out hb)
  have KP := Lib.hid (KP.out.below hb)
  have KQ := Lib.hid (KQ.out.below hb)
  clear hb
  by_cases hz : szR 1048576 p.sz < 0
  · generalize szR 1048576 p.sz = z at hz
    go_wp2
    go_light
    go_ret
    exact ⟨rfl, BW.out⟩
  obtain ⟨sp0, sp1⟩ := szR_neg (by omega) hz
  have sp : p.sz ≤ 1048576 := by omega
  rw [sp1]
  clear hz sp1 sp0
  have y0 : w1.cell? ⟨w.heap.size + 1, 0, none⟩ = some (.int .i64 q.k) := KQ.out.cell 0
  have y1 : w1.cell? ⟨w.heap.size + 1, 1, none⟩ = some (.int .i64 q.f) := KQ.out.cell 1
  have y2 : w1.cell? ⟨w.heap.size + 1, 2, none⟩ = some (.int .i64 q.v) := KQ.out.cell 2
  have y3 : w1.cell? ⟨w.heap.size + 1, 3, none⟩ = some (.int .i64 q.s) := KQ.out.cell 3
  have y4 : w1.cell? ⟨w.heap.size + 1, 4, none⟩ = some (.int .i64 q.r.c) := KQ.out.cell 4
  have y5 : w1.cell? ⟨w.heap.size + 1, 5, none⟩ = some (.int .i64 q.r.n) := KQ.out.cell 5
  have y6 : w1.cell? ⟨w.heap.size + 1, 6, none⟩ = some (.int .i64 q.r.o) := KQ.out.cell 6
  have y7 : w1.cell? ⟨w.heap.size + 1, 7, none⟩ = some (.int .i64 q.r.x) := KQ.out.cell 7
  have y8 : w1.cell? ⟨w.heap.size + 1, 8, none⟩ = some (.int .i64 q.r.y) := KQ.out.cell 8
  have y9 : w1.cell? ⟨w.heap.size + 1, 9, none⟩ = some (.slice q.A q.cl.length q.a) := KQ.out.cell 9
  have y10 : w1.cell? ⟨w.heap.size + 1, 10, none⟩ = some (.slice q.B q.vt.length q.b) := KQ.out.cell 10
  go_wp2_with (fail)
  refine (szMsg q (1048576 - (p.sz : Int)) _ (QR.out.below BW.out) (by omega) (by omega)).mono ?_
  rintro e w2 ⟨rfl, hb⟩
  have BW := Lib.hid (Below.and BW.out hb)
  have KP := Lib.hid (KP.out.below hb)
  have KQ := Lib.hid (KQ.out.below hb)
  clear hb
  clear y0 y1 y2 y3 y4 y5 y6 y7 y8 y9 y10
  by_cases hz : szR (1048576 - (p.sz : Int)) q.sz < 0
  · generalize szR (1048576 - (p.sz : Int)) q.sz = z at hz
    go_wp2
    go_light
    go_ret
    exact ⟨rfl, BW.out⟩
  obtain ⟨sq0, sq1⟩ := szR_neg (by omega) hz
  have sq : q.sz ≤ 1048576 := by omega
  rw [sq1]
  have nz : ¬ 1048576 - (p.sz : Int) - (q.sz : Int) < 0 := by omega
  clear hz sq1 sq0
  have x0 : w2.cell? ⟨w.heap.size, 0, none⟩ = some (.int .i64 p.k) := KP.out.cell 0
  have x1 : w2.cell? ⟨w.heap.size, 1, none⟩ = some (.int .i64 p.f) := KP.out.cell 1
  have x2 : w2.cell? ⟨w.heap.size, 2, none⟩ = some (.int .i64 p.v) := KP.out.cell 2
  have x3 : w2.cell? ⟨w.heap.size, 3, none⟩ = some (.int .i64 p.s) := KP.out.cell 3
  have x4 : w2.cell? ⟨w.heap.size, 4, none⟩ = some (.int .i64 p.r.c) := KP.out.cell 4
  have x5 : w2.cell? ⟨w.heap.size, 5, none⟩ = some (.int .i64 p.r.n) := KP.out.cell 5
  have x6 : w2.cell? ⟨w.heap.size, 6, none⟩ = some (.int .i64 p.r.o) := KP.out.cell 6
  have x7 : w2.cell? ⟨w.heap.size, 7, none⟩ = some (.int .i64 p.r.x) := KP.out.cell 7
  have x8 : w2.cell? ⟨w.heap.size, 8, none⟩ = some (.int .i64 p.r.y) := KP.out.cell 8
  have x9 : w2.cell? ⟨w.heap.size, 9, none⟩ = some (.slice p.A p.cl.length p.a) := KP.out.cell 9
  have x10 : w2.cell? ⟨w.heap.size, 10, none⟩ = some (.slice p.B p.vt.length p.b) := KP.out.cell 10
  have y0 : w2.cell? ⟨w.heap.size + 1, 0, none⟩ = some (.int .i64 q.k) := KQ.out.cell 0
  have y1 : w2.cell? ⟨w.heap.size + 1, 1, none⟩ = some (.int .i64 q.f) := KQ.out.cell 1
  have y2 : w2.cell? ⟨w.heap.size + 1, 2, none⟩ = some (.int .i64 q.v) := KQ.out.cell 2
  have y3 : w2.cell? ⟨w.heap.size + 1, 3, none⟩ = some (.int .i64 q.s) := KQ.out.cell 3
  have y4 : w2.cell? ⟨w.heap.size + 1, 4, none⟩ = some (.int .i64 q.r.c) := KQ.out.cell 4
  have y5 : w2.cell? ⟨w.heap.size + 1, 5, none⟩ = some (.int .i64 q.r.n) := KQ.out.cell 5
  have y6 : w2.cell? ⟨w.heap.size + 1, 6, none⟩ = some (.int .i64 q.r.o) := KQ.out.cell 6
  have y7 : w2.cell? ⟨w.heap.size + 1, 7, none⟩ = some (.int .i64 q.r.x) := KQ.out.cell 7
  have y8 : w2.cell? ⟨w.heap.size + 1, 8, none⟩ = some (.int .i64 q.r.y) := KQ.out.cell 8
  have y9 : w2.cell? ⟨w.heap.size + 1, 9, none⟩ = some (.slice q.A q.cl.length q.a) := KQ.out.cell 9
  have y10 : w2.cell? ⟨w.heap.size + 1, 10, none⟩ = some (.slice q.B q.vt.length q.b) := KQ.out.cell 10
  have lp := KP.out.lt
  have lq := KQ.out.lt
  -- the model's answer
  go_wp2_with (fail)
  refine wp_region_held_drew (S := fun w1 => Below w2.heap.size w2 w1) (by kernel_rfl) ((Below.refl _ _).drew) (fun hHeld => ?_)
  refine takeD 0 20 (v := ?_) rfl rfl (by kernel_rfl) (by kernel_rfl) (by kernel_rfl) (fun _ _ _ h => h) (Or.inl ⟨by rfl, ?_⟩) (by assumption) ?_
  rotate_left
  · intro w1 hSw; obtain ⟨hcS, hfS⟩ := bcell hSw; go_simp; (try with_reducible rfl)
  (try simp only [Act.put, List.setIfInBounds_toArray, List.set_cons_zero, List.set_cons_succ])
  refine takeD 2 22 (v := ?_) rfl rfl (by kernel_rfl) (by kernel_rfl) (by kernel_rfl) (fun _ _ _ h => h) (Or.inl ⟨by rfl, ?_⟩) (by assumption) ?_
  rotate_left
  · intro w1 hSw; obtain ⟨hcS, hfS⟩ := bcell hSw; go_simp; (try with_reducible rfl)
  (try simp only [Act.put, List.setIfInBounds_toArray, List.set_cons_zero, List.set_cons_succ])
  refine wpAnyH_ready (rs := [1]) (by kernel_rfl) (by simp) ?_
  refine AllReadyH.cons rfl (fun K hK => ?_) AllReadyH.nil
  go_simp
  refine (toMsg p _ (PR.out.below (Below.and BW.out hHeld)) sp).mono ?_
  rintro e w3 ⟨P1, rfl, hmP1, hoP1, hb⟩
  refine hK.out _ _ (Below.and hHeld hb) (fun hHeld2 => ?_)
  clear hK K
  (try simp only [Act.put, List.setIfInBounds_toArray, List.set_cons_zero, List.set_cons_succ])
  refine wpAnyH_ready (rs := [3]) (by kernel_rfl) (by simp) ?_
  refine AllReadyH.cons rfl (fun K hK => ?_) AllReadyH.nil
  go_simp
  refine (toMsg q _ (QR.out.below (Below.and BW.out hHeld2)) sq).mono ?_
  rintro e w4 ⟨Q1, rfl, hmQ1, hoQ1, hb⟩
  have hoP1 := hoP1.below hb
  refine hK.out _ _ (Below.and hHeld2 hb) (fun hHeld3 => ?_)
  clear hK K
  (try simp only [Act.put, List.setIfInBounds_toArray, List.set_cons_zero, List.set_cons_succ])
  refine wpAnyH_ready (rs := [4]) (by kernel_rfl) (by simp) ?_
  refine AllReadyH.cons rfl (fun K hK => ?_) AllReadyH.nil
  go_simp
  refine (specMsgSame P1 Q1 _ hoP1.rd hoQ1.rd).mono ?_
  rintro e w5 ⟨he, hb⟩
  obtain rfl := he.trans (ret_bool (show decide (P1.mg = Q1.mg) = decide (p.mg = q.mg) by rw [hmP1, hmQ1]))
  refine hK.out _ _ (Below.and hHeld3 hb) (fun hHeld4 => ?_)
  clear hK K
  (try simp only [Act.put, List.setIfInBounds_toArray, List.set_cons_zero, List.set_cons_succ])
  refine takeD 5 6 (v := ?_) rfl rfl (by kernel_rfl) (by kernel_rfl) (by kernel_rfl) (fun _ _ _ h => h) (Or.inl ⟨by rfl, ?_⟩) (by assumption) ?_
  rotate_left
  · intro w1 hSw; obtain ⟨hcS, hfS⟩ := bcell hSw; go_simp; (try with_reducible rfl)
  (try simp only [Act.put, List.setIfInBounds_toArray, List.set_cons_zero, List.set_cons_succ])
  refine wpAnyH_done (by kernel_rfl) ?_ _
  have BW := Lib.hid (Below.and BW.out hHeld4)
  have KP := Lib.hid (KP.out.below hHeld4)
  have KQ := Lib.hid (KQ.out.below hHeld4)
  have OO := 0
  clear x0 x1 x2 x3 x4 x5 x6 x7 x8 x9 x10 y0 y1 y2 y3 y4 y5 y6 y7 y8 y9 y10
  clear lp lq OO hHeld hHeld2 hHeld3 hHeld4 hmP1 hoP1 hmQ1 hoQ1
  generalize hD : decide (p.mg = q.mg) = D
  have HD := Lib.hid hD
  clear hD
  have x0 : w5.cell? ⟨w.heap.size, 0, none⟩ = some (.int .i64 p.k) := KP.out.cell 0
  have x1 : w5.cell? ⟨w.heap.size, 1, none⟩ = some (.int .i64 p.f) := KP.out.cell 1
  have x2 : w5.cell? ⟨w.heap.size, 2, none⟩ = some (.int .i64 p.v) := KP.out.cell 2
  have x3 : w5.cell? ⟨w.heap.size, 3, none⟩ = some (.int .i64 p.s) := KP.out.cell 3
  have x4 : w5.cell? ⟨w.heap.size, 4, none⟩ = some (.int .i64 p.r.c) := KP.out.cell 4
  have x5 : w5.cell? ⟨w.heap.size, 5, none⟩ = some (.int .i64 p.r.n) := KP.out.cell 5
  have x6 : w5.cell? ⟨w.heap.size, 6, none⟩ = some (.int .i64 p.r.o) := KP.out.cell 6
  have x7 : w5.cell? ⟨w.heap.size, 7, none⟩ = some (.int .i64 p.r.x) := KP.out.cell 7
  have x8 : w5.cell? ⟨w.heap.size, 8, none⟩ = some (.int .i64 p.r.y) := KP.out.cell 8
  have x9 : w5.cell? ⟨w.heap.size, 9, none⟩ = some (.slice p.A p.cl.length p.a) := KP.out.cell 9
  have x10 : w5.cell? ⟨w.heap.size, 10, none⟩ = some (.slice p.B p.vt.length p.b) := KP.out.cell 10
  go_wp2_with (fail)
  refine (toMsg p _ (PR.out.below BW.out) sp).mono ?_
  rintro e w6 ⟨X0, rfl, hm, ho, hb⟩
  have BW := Lib.hid (Below.and BW.out hb)
  have KP := Lib.hid (KP.out.below hb)
  have KQ := Lib.hid (KQ.out.below hb)
  have HMX0 := Lib.hid hm
  have OX0 := Lib.hid ho
  clear x0 x1 x2 x3 x4 x5 x6 x7 x8 x9 x10
  clear hm ho hb
  have KP := Lib.hid (KP.out.alloc ((.cells #[.int .i64 X0.k, .int .i64 X0.f, .int .i64 X0.v, .int .i64 X0.s, .int .i64 X0.r.c, .int .i64 X0.r.n, .int .i64 X0.r.o, .int .i64 X0.r.x, .int .i64 X0.r.y, .slice X0.A X0.cl.length X0.a, .slice X0.B X0.vt.length X0.b] 49)))
  have KQ := Lib.hid (KQ.out.alloc ((.cells #[.int .i64 X0.k, .int .i64 X0.f, .int .i64 X0.v, .int .i64 X0.s, .int .i64 X0.r.c, .int .i64 X0.r.n, .int .i64 X0.r.o, .int .i64 X0.r.x, .int .i64 X0.r.y, .slice X0.A X0.cl.length X0.a, .slice X0.B X0.vt.length X0.b] 49)))
  have OX0 := Lib.hid (OX0.out.below ((Below.refl _ _).alloc (Nat.le_refl _) (.cells #[.int .i64 X0.k, .int .i64 X0.f, .int .i64 X0.v, .int .i64 X0.s, .int .i64 X0.r.c, .int .i64 X0.r.n, .int .i64 X0.r.o, .int .i64 X0.r.x, .int .i64 X0.r.y, .slice X0.A X0.cl.length X0.a, .slice X0.B X0.vt.length X0.b] 49)))
  have K7 : Hid (Blk (w6.alloc (.cells #[.int .i64 X0.k, .int .i64 X0.f, .int .i64 X0.v, .int .i64 X0.s, .int .i64 X0.r.c, .int .i64 X0.r.n, .int .i64 X0.r.o, .int .i64 X0.r.x, .int .i64 X0.r.y, .slice X0.A X0.cl.length X0.a, .slice X0.B X0.vt.length X0.b] 49)) w6.heap.size 49 #[.int .i64 X0.k, .int .i64 X0.f, .int .i64 X0.v, .int .i64 X0.s, .int .i64 X0.r.c, .int .i64 X0.r.n, .int .i64 X0.r.o, .int .i64 X0.r.x, .int .i64 X0.r.y, .slice X0.A X0.cl.length X0.a, .slice X0.B X0.vt.length X0.b]) := Blk.new w6
  have BW := Lib.hid (Below.and BW.out ((Below.refl _ _).alloc (Nat.le_refl _) (.cells #[.int .i64 X0.k, .int .i64 X0.f, .int .i64 X0.v, .int .i64 X0.s, .int .i64 X0.r.c, .int .i64 X0.r.n, .int .i64 X0.r.o, .int .i64 X0.r.x, .int .i64 X0.r.y, .slice X0.A X0.cl.length X0.a, .slice X0.B X0.vt.length X0.b] 49)))
  have YC := fun j => KQ.out.cell j
  have y0 : (w6.alloc (.cells #[.int .i64 X0.k, .int .i64 X0.f, .int .i64 X0.v, .int .i64 X0.s, .int .i64 X0.r.c, .int .i64 X0.r.n, .int .i64 X0.r.o, .int .i64 X0.r.x, .int .i64 X0.r.y, .slice X0.A X0.cl.length X0.a, .slice X0.B X0.vt.length X0.b] 49)).cell? ⟨w.heap.size + 1, 0, none⟩ = some (.int .i64 q.k) := KQ.out.cell 0
  have y1 : (w6.alloc (.cells #[.int .i64 X0.k, .int .i64 X0.f, .int .i64 X0.v, .int .i64 X0.s, .int .i64 X0.r.c, .int .i64 X0.r.n, .int .i64 X0.r.o, .int .i64 X0.r.x, .int .i64 X0.r.y, .slice X0.A X0.cl.length X0.a, .slice X0.B X0.vt.length X0.b] 49)).cell? ⟨w.heap.size + 1, 1, none⟩ = some (.int .i64 q.f) := KQ.out.cell 1
  have y2 : (w6.alloc (.cells #[.int .i64 X0.k, .int .i64 X0.f, .int .i64 X0.v, .int .i64 X0.s, .int .i64 X0.r.c, .int .i64 X0.r.n, .int .i64 X0.r.o, .int .i64 X0.r.x, .int .i64 X0.r.y, .slice X0.A X0.cl.length X0.a, .slice X0.B X0.vt.length X0.b] 49)).cell? ⟨w.heap.size + 1, 2, none⟩ = some (.int .i64 q.v) := KQ.out.cell 2
  have y3 : (w6.alloc (.cells #[.int .i64 X0.k, .int .i64 X0.f, .int .i64 X0.v, .int .i64 X0.s, .int .i64 X0.r.c, .int .i64 X0.r.n, .int .i64 X0.r.o, .int .i64 X0.r.x, .int .i64 X0.r.y, .slice X0.A X0.cl.length X0.a, .slice X0.B X0.vt.length X0.b] 49)).cell? ⟨w.heap.size + 1, 3, none⟩ = some (.int .i64 q.s) := KQ.out.cell 3
  have y4 : (w6.alloc (.cells #[.int .i64 X0.k, .int .i64 X0.f, .int .i64 X0.v, .int .i64 X0.s, .int .i64 X0.r.c, .int .i64 X0.r.n, .int .i64 X0.r.o, .int .i64 X0.r.x, .int .i64 X0.r.y, .slice X0.A X0.cl.length X0.a, .slice X0.B X0.vt.length X0.b] 49)).cell? ⟨w.heap.size + 1, 4, none⟩ = some (.int .i64 q.r.c) := KQ.out.cell 4
  have y5 : (w6.alloc (.cells #[.int .i64 X0.k, .int .i64 X0.f, .int .i64 X0.v, .int .i64 X0.s, .int .i64 X0.r.c, .int .i64 X0.r.n, .int .i64 X0.r.o, .int .i64 X0.r.x, .int .i64 X0.r.y, .slice X0.A X0.cl.length X0.a, .slice X0.B X0.vt.length X0.b] 49)).cell? ⟨w.heap.size + 1, 5, none⟩ = some (.int .i64 q.r.n) := KQ.out.cell 5
  have y6 : (w6.alloc (.cells #[.int .i64 X0.k, .int .i64 X0.f, .int .i64 X0.v, .int .i64 X0.s, .int .i64 X0.r.c, .int .i64 X0.r.n, .int .i64 X0.r.o, .int .i64 X0.r.x, .int .i64 X0.r.y, .slice X0.A X0.cl.length X0.a, .slice X0.B X0.vt.length X0.b] 49)).cell? ⟨w.heap.size + 1, 6, none⟩ = some (.int .i64 q.r.o) := KQ.out.cell 6
  have y7 : (w6.alloc (.cells #[.int .i64 X0.k, .int .i64 X0.f, .int .i64 X0.v, .int .i64 X0.s, .int .i64 X0.r.c, .int .i64 X0.r.n, .int .i64 X0.r.o, .int .i64 X0.r.x, .int .i64 X0.r.y, .slice X0.A X0.cl.length X0.a, .slice X0.B X0.vt.length X0.b] 49)).cell? ⟨w.heap.size + 1, 7, none⟩ = some (.int .i64 q.r.x) := KQ.out.cell 7
  have y8 : (w6.alloc (.cells #[.int .i64 X0.k, .int .i64 X0.f, .int .i64 X0.v, .int .i64 X0.s, .int .i64 X0.r.c, .int .i64 X0.r.n, .int .i64 X0.r.o, .int .i64 X0.r.x, .int .i64 X0.r.y, .slice X0.A X0.cl.length X0.a, .slice X0.B X0.vt.length X0.b] 49)).cell? ⟨w.heap.size + 1, 8, none⟩ = some (.int .i64 q.r.y) := KQ.out.cell 8
  have y9 : (w6.alloc (.cells #[.int .i64 X0.k, .int .i64 X0.f, .int .i64 X0.v, .int .i64 X0.s, .int .i64 X0.r.c, .int .i64 X0.r.n, .int .i64 X0.r.o, .int .i64 X0.r.x, .int .i64 X0.r.y, .slice X0.A X0.cl.length X0.a, .slice X0.B X0.vt.length X0.b] 49)).cell? ⟨w.heap.size + 1, 9, none⟩ = some (.slice q.A q.cl.length q.a) := KQ.out.cell 9
  have y10 : (w6.alloc (.cells #[.int .i64 X0.k, .int .i64 X0.f, .int .i64 X0.v, .int .i64 X0.s, .int .i64 X0.r.c, .int .i64 X0.r.n, .int .i64 X0.r.o, .int .i64 X0.r.x, .int .i64 X0.r.y, .slice X0.A X0.cl.length X0.a, .slice X0.B X0.vt.length X0.b] 49)).cell? ⟨w.heap.size + 1, 10, none⟩ = some (.slice q.B q.vt.length q.b) := KQ.out.cell 10
  clear YC
  go_wp2_with (fail)
  refine (toMsg q _ (QR.out.below BW.out) sq).mono ?_
  rintro e w7 ⟨X1, rfl, hm, ho, hb⟩
  have BW := Lib.hid (Below.and BW.out hb)
  have KP := Lib.hid (KP.out.below hb)
  have KQ := Lib.hid (KQ.out.below hb)
  have K7 := Lib.hid (K7.out.below hb)
  have OX0 := Lib.hid (OX0.out.below hb)
  have HMX1 := Lib.hid hm
  have OX1 := Lib.hid ho
  clear y0 y1 y2 y3 y4 y5 y6 y7 y8 y9 y10
  clear hm ho hb
  have KP := Lib.hid (KP.out.alloc ((.cells #[.int .i64 X1.k, .int .i64 X1.f, .int .i64 X1.v, .int .i64 X1.s, .int .i64 X1.r.c, .int .i64 X1.r.n, .int .i64 X1.r.o, .int .i64 X1.r.x, .int .i64 X1.r.y, .slice X1.A X1.cl.length X1.a, .slice X1.B X1.vt.length X1.b] 49)))
  have KQ := Lib.hid (KQ.out.alloc ((.cells #[.int .i64 X1.k, .int .i64 X1.f, .int .i64 X1.v, .int .i64 X1.s, .int .i64 X1.r.c, .int .i64 X1.r.n, .int .i64 X1.r.o, .int .i64 X1.r.x, .int .i64 X1.r.y, .slice X1.A X1.cl.length X1.a, .slice X1.B X1.vt.length X1.b] 49)))
  have K7 := Lib.hid (K7.out.alloc ((.cells #[.int .i64 X1.k, .int .i64 X1.f, .int .i64 X1.v, .int .i64 X1.s, .int .i64 X1.r.c, .int .i64 X1.r.n, .int .i64 X1.r.o, .int .i64 X1.r.x, .int .i64 X1.r.y, .slice X1.A X1.cl.length X1.a, .slice X1.B X1.vt.length X1.b] 49)))
  have OX0 := Lib.hid (OX0.out.below ((Below.refl _ _).alloc (Nat.le_refl _) (.cells #[.int .i64 X1.k, .int .i64 X1.f, .int .i64 X1.v, .int .i64 X1.s, .int .i64 X1.r.c, .int .i64 X1.r.n, .int .i64 X1.r.o, .int .i64 X1.r.x, .int .i64 X1.r.y, .slice X1.A X1.cl.length X1.a, .slice X1.B X1.vt.length X1.b] 49)))
  have OX1 := Lib.hid (OX1.out.below ((Below.refl _ _).alloc (Nat.le_refl _) (.cells #[.int .i64 X1.k, .int .i64 X1.f, .int .i64 X1.v, .int .i64 X1.s, .int .i64 X1.r.c, .int .i64 X1.r.n, .int .i64 X1.r.o, .int .i64 X1.r.x, .int .i64 X1.r.y, .slice X1.A X1.cl.length X1.a, .slice X1.B X1.vt.length X1.b] 49)))
  have K8 : Hid (Blk (w7.alloc (.cells #[.int .i64 X1.k, .int .i64 X1.f, .int .i64 X1.v, .int .i64 X1.s, .int .i64 X1.r.c, .int .i64 X1.r.n, .int .i64 X1.r.o, .int .i64 X1.r.x, .int .i64 X1.r.y, .slice X1.A X1.cl.length X1.a, .slice X1.B X1.vt.length X1.b] 49)) w7.heap.size 49 #[.int .i64 X1.k, .int .i64 X1.f, .int .i64 X1.v, .int .i64 X1.s, .int .i64 X1.r.c, .int .i64 X1.r.n, .int .i64 X1.r.o, .int .i64 X1.r.x, .int .i64 X1.r.y, .slice X1.A X1.cl.length X1.a, .slice X1.B X1.vt.length X1.b]) := Blk.new w7
  have BW := Lib.hid (Below.and BW.out ((Below.refl _ _).alloc (Nat.le_refl _) (.cells #[.int .i64 X1.k, .int .i64 X1.f, .int .i64 X1.v, .int .i64 X1.s, .int .i64 X1.r.c, .int .i64 X1.r.n, .int .i64 X1.r.o, .int .i64 X1.r.x, .int .i64 X1.r.y, .slice X1.A X1.cl.length X1.a, .slice X1.B X1.vt.length X1.b] 49)))
  have x0 : (w7.alloc (.cells #[.int .i64 X1.k, .int .i64 X1.f, .int .i64 X1.v, .int .i64 X1.s, .int .i64 X1.r.c, .int .i64 X1.r.n, .int .i64 X1.r.o, .int .i64 X1.r.x, .int .i64 X1.r.y, .slice X1.A X1.cl.length X1.a, .slice X1.B X1.vt.length X1.b] 49)).cell? ⟨w6.heap.size, 0, none⟩ = some (.int .i64 X0.k) := K7.out.cell 0
  have x1 : (w7.alloc (.cells #[.int .i64 X1.k, .int .i64 X1.f, .int .i64 X1.v, .int .i64 X1.s, .int .i64 X1.r.c, .int .i64 X1.r.n, .int .i64 X1.r.o, .int .i64 X1.r.x, .int .i64 X1.r.y, .slice X1.A X1.cl.length X1.a, .slice X1.B X1.vt.length X1.b] 49)).cell? ⟨w6.heap.size, 1, none⟩ = some (.int .i64 X0.f) := K7.out.cell 1
  have x2 : (w7.alloc (.cells #[.int .i64 X1.k, .int .i64 X1.f, .int .i64 X1.v, .int .i64 X1.s, .int .i64 X1.r.c, .int .i64 X1.r.n, .int .i64 X1.r.o, .int .i64 X1.r.x, .int .i64 X1.r.y, .slice X1.A X1.cl.length X1.a, .slice X1.B X1.vt.length X1.b] 49)).cell? ⟨w6.heap.size, 2, none⟩ = some (.int .i64 X0.v) := K7.out.cell 2
  have x3 : (w7.alloc (.cells #[.int .i64 X1.k, .int .i64 X1.f, .int .i64 X1.v, .int .i64 X1.s, .int .i64 X1.r.c, .int .i64 X1.r.n, .int .i64 X1.r.o, .int .i64 X1.r.x, .int .i64 X1.r.y, .slice X1.A X1.cl.length X1.a, .slice X1.B X1.vt.length X1.b] 49)).cell? ⟨w6.heap.size, 3, none⟩ = some (.int .i64 X0.s) := K7.out.cell 3
  have x4 : (w7.alloc (.cells #[.int .i64 X1.k, .int .i64 X1.f, .int .i64 X1.v, .int .i64 X1.s, .int .i64 X1.r.c, .int .i64 X1.r.n, .int .i64 X1.r.o, .int .i64 X1.r.x, .int .i64 X1.r.y, .slice X1.A X1.cl.length X1.a, .slice X1.B X1.vt.length X1.b] 49)).cell? ⟨w6.heap.size, 4, none⟩ = some (.int .i64 X0.r.c) := K7.out.cell 4
  have x5 : (w7.alloc (.cells #[.int .i64 X1.k, .int .i64 X1.f, .int .i64 X1.v, .int .i64 X1.s, .int .i64 X1.r.c, .int .i64 X1.r.n, .int .i64 X1.r.o, .int .i64 X1.r.x, .int .i64 X1.r.y, .slice X1.A X1.cl.length X1.a, .slice X1.B X1.vt.length X1.b] 49)).cell? ⟨w6.heap.size, 5, none⟩ = some (.int .i64 X0.r.n) := K7.out.cell 5
  have x6 : (w7.alloc (.cells #[.int .i64 X1.k, .int .i64 X1.f, .int .i64 X1.v, .int .i64 X1.s, .int .i64 X1.r.c, .int .i64 X1.r.n, .int .i64 X1.r.o, .int .i64 X1.r.x, .int .i64 X1.r.y, .slice X1.A X1.cl.length X1.a, .slice X1.B X1.vt.length X1.b] 49)).cell? ⟨w6.heap.size, 6, none⟩ = some (.int .i64 X0.r.o) := K7.out.cell 6
  have x7 : (w7.alloc (.cells #[.int .i64 X1.k, .int .i64 X1.f, .int .i64 X1.v, .int .i64 X1.s, .int .i64 X1.r.c, .int .i64 X1.r.n, .int .i64 X1.r.o, .int .i64 X1.r.x, .int .i64 X1.r.y, .slice X1.A X1.cl.length X1.a, .slice X1.B X1.vt.length X1.b] 49)).cell? ⟨w6.heap.size, 7, none⟩ = some (.int .i64 X0.r.x) := K7.out.cell 7
  have x8 : (w7.alloc (.cells #[.int .i64 X1.k, .int .i64 X1.f, .int .i64 X1.v, .int .i64 X1.s, .int .i64 X1.r.c, .int .i64 X1.r.n, .int .i64 X1.r.o, .int .i64 X1.r.x, .int .i64 X1.r.y, .slice X1.A X1.cl.length X1.a, .slice X1.B X1.vt.length X1.b] 49)).cell? ⟨w6.heap.size, 8, none⟩ = some (.int .i64 X0.r.y) := K7.out.cell 8
  have x9 : (w7.alloc (.cells #[.int .i64 X1.k, .int .i64 X1.f, .int .i64 X1.v, .int .i64 X1.s, .int .i64 X1.r.c, .int .i64 X1.r.n, .int .i64 X1.r.o, .int .i64 X1.r.x, .int .i64 X1.r.y, .slice X1.A X1.cl.length X1.a, .slice X1.B X1.vt.length X1.b] 49)).cell? ⟨w6.heap.size, 9, none⟩ = some (.slice X0.A X0.cl.length X0.a) := K7.out.cell 9
  have x10 : (w7.alloc (.cells #[.int .i64 X1.k, .int .i64 X1.f, .int .i64 X1.v, .int .i64 X1.s, .int .i64 X1.r.c, .int .i64 X1.r.n, .int .i64 X1.r.o, .int .i64 X1.r.x, .int .i64 X1.r.y, .slice X1.A X1.cl.length X1.a, .slice X1.B X1.vt.length X1.b] 49)).cell? ⟨w6.heap.size, 10, none⟩ = some (.slice X0.B X0.vt.length X0.b) := K7.out.cell 10
  have y0 : (w7.alloc (.cells #[.int .i64 X1.k, .int .i64 X1.f, .int .i64 X1.v, .int .i64 X1.s, .int .i64 X1.r.c, .int .i64 X1.r.n, .int .i64 X1.r.o, .int .i64 X1.r.x, .int .i64 X1.r.y, .slice X1.A X1.cl.length X1.a, .slice X1.B X1.vt.length X1.b] 49)).cell? ⟨w7.heap.size, 0, none⟩ = some (.int .i64 X1.k) := K8.out.cell 0
  have y1 : (w7.alloc (.cells #[.int .i64 X1.k, .int .i64 X1.f, .int .i64 X1.v, .int .i64 X1.s, .int .i64 X1.r.c, .int .i64 X1.r.n, .int .i64 X1.r.o, .int .i64 X1.r.x, .int .i64 X1.r.y, .slice X1.A X1.cl.length X1.a, .slice X1.B X1.vt.length X1.b] 49)).cell? ⟨w7.heap.size, 1, none⟩ = some (.int .i64 X1.f) := K8.out.cell 1
  have y2 : (w7.alloc (.cells #[.int .i64 X1.k, .int .i64 X1.f, .int .i64 X1.v, .int .i64 X1.s, .int .i64 X1.r.c, .int .i64 X1.r.n, .int .i64 X1.r.o, .int .i64 X1.r.x, .int .i64 X1.r.y, .slice X1.A X1.cl.length X1.a, .slice X1.B X1.vt.length X1.b] 49)).cell? ⟨w7.heap.size, 2, none⟩ = some (.int .i64 X1.v) := K8.out.cell 2
  have y3 : (w7.alloc (.cells #[.int .i64 X1.k, .int .i64 X1.f, .int .i64 X1.v, .int .i64 X1.s, .int .i64 X1.r.c, .int .i64 X1.r.n, .int .i64 X1.r.o, .int .i64 X1.r.x, .int .i64 X1.r.y, .slice X1.A X1.cl.length X1.a, .slice X1.B X1.vt.length X1.b] 49)).cell? ⟨w7.heap.size, 3, none⟩ = some (.int .i64 X1.s) := K8.out.cell 3
  have y4 : (w7.alloc (.cells #[.int .i64 X1.k, .int .i64 X1.f, .int .i64 X1.v, .int .i64 X1.s, .int .i64 X1.r.c, .int .i64 X1.r.n, .int .i64 X1.r.o, .int .i64 X1.r.x, .int .i64 X1.r.y, .slice X1.A X1.cl.length X1.a, .slice X1.B X1.vt.length X1.b] 49)).cell? ⟨w7.heap.size, 4, none⟩ = some (.int .i64 X1.r.c) := K8.out.cell 4
  have y5 : (w7.alloc (.cells #[.int .i64 X1.k, .int .i64 X1.f, .int .i64 X1.v, .int .i64 X1.s, .int .i64 X1.r.c, .int .i64 X1.r.n, .int .i64 X1.r.o, .int .i64 X1.r.x, .int .i64 X1.r.y, .slice X1.A X1.cl.length X1.a, .slice X1.B X1.vt.length X1.b] 49)).cell? ⟨w7.heap.size, 5, none⟩ = some (.int .i64 X1.r.n) := K8.out.cell 5
  have y6 : (w7.alloc (.cells #[.int .i64 X1.k, .int .i64 X1.f, .int .i64 X1.v, .int .i64 X1.s, .int .i64 X1.r.c, .int .i64 X1.r.n, .int .i64 X1.r.o, .int .i64 X1.r.x, .int .i64 X1.r.y, .slice X1.A X1.cl.length X1.a, .slice X1.B X1.vt.length X1.b] 49)).cell? ⟨w7.heap.size, 6, none⟩ = some (.int .i64 X1.r.o) := K8.out.cell 6
  have y7 : (w7.alloc (.cells #[.int .i64 X1.k, .int .i64 X1.f, .int .i64 X1.v, .int .i64 X1.s, .int .i64 X1.r.c, .int .i64 X1.r.n, .int .i64 X1.r.o, .int .i64 X1.r.x, .int .i64 X1.r.y, .slice X1.A X1.cl.length X1.a, .slice X1.B X1.vt.length X1.b] 49)).cell? ⟨w7.heap.size, 7, none⟩ = some (.int .i64 X1.r.x) := K8.out.cell 7
  have y8 : (w7.alloc (.cells #[.int .i64 X1.k, .int .i64 X1.f, .int .i64 X1.v, .int .i64 X1.s, .int .i64 X1.r.c, .int .i64 X1.r.n, .int .i64 X1.r.o, .int .i64 X1.r.x, .int .i64 X1.r.y, .slice X1.A X1.cl.length X1.a, .slice X1.B X1.vt.length X1.b] 49)).cell? ⟨w7.heap.size, 8, none⟩ = some (.int .i64 X1.r.y) := K8.out.cell 8
  have y9 : (w7.alloc (.cells #[.int .i64 X1.k, .int .i64 X1.f, .int .i64 X1.v, .int .i64 X1.s, .int .i64 X1.r.c, .int .i64 X1.r.n, .int .i64 X1.r.o, .int .i64 X1.r.x, .int .i64 X1.r.y, .slice X1.A X1.cl.length X1.a, .slice X1.B X1.vt.length X1.b] 49)).cell? ⟨w7.heap.size, 9, none⟩ = some (.slice X1.A X1.cl.length X1.a) := K8.out.cell 9
  have y10 : (w7.alloc (.cells #[.int .i64 X1.k, .int .i64 X1.f, .int .i64 X1.v, .int .i64 X1.s, .int .i64 X1.r.c, .int .i64 X1.r.n, .int .i64 X1.r.o, .int .i64 X1.r.x, .int .i64 X1.r.y, .slice X1.A X1.cl.length X1.a, .slice X1.B X1.vt.length X1.b] 49)).cell? ⟨w7.heap.size, 10, none⟩ = some (.slice X1.B X1.vt.length X1.b) := K8.out.cell 10
  go_wp2_with (fail)
  refine (msgSame X0 X1 _ OX0.out.rd OX1.out.rd).mono ?_
  rintro e w8 ⟨he, hb⟩
  obtain rfl := he.trans (ret_bool (show decide (X0.mg = X1.mg) = D by rw [HMX0.out, HMX1.out, HD.out]))
  have BW := Lib.hid (Below.and BW.out hb)
  have KP := Lib.hid (KP.out.below hb)
  have KQ := Lib.hid (KQ.out.below hb)
  have K7 := Lib.hid (K7.out.below hb)
  have K8 := Lib.hid (K8.out.below hb)
  have OX0 := Lib.hid (OX0.out.below hb)
  have OX1 := Lib.hid (OX1.out.below hb)
  clear x0 x1 x2 x3 x4 x5 x6 x7 x8 x9 x10 y0 y1 y2 y3 y4 y5 y6 y7 y8 y9 y10
  clear hb he
  have bb : (D != D) = false := by simp
  have lp := K7.out.lt
  have lq := KP.out.lt
  have x0 : w8.cell? ⟨w6.heap.size, 0, none⟩ = some (.int .i64 X0.k) := K7.out.cell 0
  have x1 : w8.cell? ⟨w6.heap.size, 1, none⟩ = some (.int .i64 X0.f) := K7.out.cell 1
  have x2 : w8.cell? ⟨w6.heap.size, 2, none⟩ = some (.int .i64 X0.v) := K7.out.cell 2
  have x3 : w8.cell? ⟨w6.heap.size, 3, none⟩ = some (.int .i64 X0.s) := K7.out.cell 3
  have x4 : w8.cell? ⟨w6.heap.size, 4, none⟩ = some (.int .i64 X0.r.c) := K7.out.cell 4
  have x5 : w8.cell? ⟨w6.heap.size, 5, none⟩ = some (.int .i64 X0.r.n) := K7.out.cell 5
  have x6 : w8.cell? ⟨w6.heap.size, 6, none⟩ = some (.int .i64 X0.r.o) := K7.out.cell 6
  have x7 : w8.cell? ⟨w6.heap.size, 7, none⟩ = some (.int .i64 X0.r.x) := K7.out.cell 7
  have x8 : w8.cell? ⟨w6.heap.size, 8, none⟩ = some (.int .i64 X0.r.y) := K7.out.cell 8
  have x9 : w8.cell? ⟨w6.heap.size, 9, none⟩ = some (.slice X0.A X0.cl.length X0.a) := K7.out.cell 9
  have x10 : w8.cell? ⟨w6.heap.size, 10, none⟩ = some (.slice X0.B X0.vt.length X0.b) := K7.out.cell 10
  have y0 : w8.cell? ⟨w.heap.size, 0, none⟩ = some (.int .i64 p.k) := KP.out.cell 0
  have y1 : w8.cell? ⟨w.heap.size, 1, none⟩ = some (.int .i64 p.f) := KP.out.cell 1
  have y2 : w8.cell? ⟨w.heap.size, 2, none⟩ = some (.int .i64 p.v) := KP.out.cell 2
  have y3 : w8.cell? ⟨w.heap.size, 3, none⟩ = some (.int .i64 p.s) := KP.out.cell 3
  have y4 : w8.cell? ⟨w.heap.size, 4, none⟩ = some (.int .i64 p.r.c) := KP.out.cell 4
  have y5 : w8.cell? ⟨w.heap.size, 5, none⟩ = some (.int .i64 p.r.n) := KP.out.cell 5
  have y6 : w8.cell? ⟨w.heap.size, 6, none⟩ = some (.int .i64 p.r.o) := KP.out.cell 6
  have y7 : w8.cell? ⟨w.heap.size, 7, none⟩ = some (.int .i64 p.r.x) := KP.out.cell 7
  have y8 : w8.cell? ⟨w.heap.size, 8, none⟩ = some (.int .i64 p.r.y) := KP.out.cell 8
  have y9 : w8.cell? ⟨w.heap.size, 9, none⟩ = some (.slice p.A p.cl.length p.a) := KP.out.cell 9
  have y10 : w8.cell? ⟨w.heap.size, 10, none⟩ = some (.slice p.B p.vt.length p.b) := KP.out.cell 10
  go_wp2_with (fail)
  refine wp_region_held_drew (S := fun w1 => Below w8.heap.size w8 w1) (by kernel_rfl) ((Below.refl _ _).drew) (fun hq14 => ?_)
  refine takeD 0 35 (v := ?_) rfl rfl (by kernel_rfl) (by kernel_rfl) (by kernel_rfl) (fun _ _ _ h => h) (Or.inl ⟨by rfl, ?_⟩) (by assumption) ?_
  rotate_left
  · intro w1 hSw; obtain ⟨hcS, hfS⟩ := bcell hSw; go_simp; (try with_reducible rfl)
  (try simp only [Act.put, List.setIfInBounds_toArray, List.set_cons_zero, List.set_cons_succ])
  refine takeD 1 36 (v := ?_) rfl rfl (by kernel_rfl) (by kernel_rfl) (by kernel_rfl) (fun _ _ _ h => h) (Or.inl ⟨by rfl, ?_⟩) (by assumption) ?_
  rotate_left
  · intro w1 hSw; obtain ⟨hcS, hfS⟩ := bcell hSw; go_simp; (try with_reducible rfl)
  (try simp only [Act.put, List.setIfInBounds_toArray, List.set_cons_zero, List.set_cons_succ])
  refine wpAnyH_ready (rs := [2]) (by kernel_rfl) (by simp) ?_
  refine AllReadyH.cons rfl (fun K hK => ?_) AllReadyH.nil
  go_simp
  refine (toMsg p _ (PR.out.below (Below.and BW.out hq14)) sp).mono ?_
  rintro e w9 ⟨P2, rfl, hmP2, hoP2, hb⟩
  refine hK.out _ _ (Below.and hq14 hb) (fun hq142 => ?_)
  clear hK K
  (try simp only [Act.put, List.setIfInBounds_toArray, List.set_cons_zero, List.set_cons_succ])
  refine wpAnyH_ready (rs := [3]) (by kernel_rfl) (by simp) ?_
  refine AllReadyH.cons rfl (fun K hK => ?_) AllReadyH.nil
  go_simp
  refine (eqMsg X0 P2 _ ((OX0.out.below hq142).rd) hoP2.rd).mono ?_
  rintro e w10 ⟨he, hb⟩
  obtain rfl := he.trans (ret_bool (show decide (X0.mg = P2.mg) = true by rw [HMX0.out, hmP2]; exact decide_eq_true rfl))
  refine hK.out _ _ (Below.and hq142 hb) (fun hq143 => ?_)
  clear hK K
  (try simp only [Act.put, List.setIfInBounds_toArray, List.set_cons_zero, List.set_cons_succ])
  refine takeD 4 39 (v := ?_) rfl rfl (by kernel_rfl) (by kernel_rfl) (by kernel_rfl) (fun _ _ _ h => h) (Or.inl ⟨by rfl, ?_⟩) (by assumption) ?_
  rotate_left
  · intro w1 hSw; obtain ⟨hcS, hfS⟩ := bcell hSw; go_simp; (try with_reducible rfl)
  (try simp only [Act.put, List.setIfInBounds_toArray, List.set_cons_zero, List.set_cons_succ])
  refine wpAnyH_done (by kernel_rfl) ?_ _
  have BW := Lib.hid (Below.and BW.out hq143)
  have KQ := Lib.hid (KQ.out.below hq143)
  have K8 := Lib.hid (K8.out.below hq143)
  have OX1 := Lib.hid (OX1.out.below hq143)
  clear x0 x1 x2 x3 x4 x5 x6 x7 x8 x9 x10 y0 y1 y2 y3 y4 y5 y6 y7 y8 y9 y10
  clear lp lq hq14 hq142 hq143 hmP2 hoP2
  have lp := K8.out.lt
  have lq := KQ.out.lt
  have x0 : w10.cell? ⟨w7.heap.size, 0, none⟩ = some (.int .i64 X1.k) := K8.out.cell 0
  have x1 : w10.cell? ⟨w7.heap.size, 1, none⟩ = some (.int .i64 X1.f) := K8.out.cell 1
  have x2 : w10.cell? ⟨w7.heap.size, 2, none⟩ = some (.int .i64 X1.v) := K8.out.cell 2
  have x3 : w10.cell? ⟨w7.heap.size, 3, none⟩ = some (.int .i64 X1.s) := K8.out.cell 3
  have x4 : w10.cell? ⟨w7.heap.size, 4, none⟩ = some (.int .i64 X1.r.c) := K8.out.cell 4
  have x5 : w10.cell? ⟨w7.heap.size, 5, none⟩ = some (.int .i64 X1.r.n) := K8.out.cell 5
  have x6 : w10.cell? ⟨w7.heap.size, 6, none⟩ = some (.int .i64 X1.r.o) := K8.out.cell 6
  have x7 : w10.cell? ⟨w7.heap.size, 7, none⟩ = some (.int .i64 X1.r.x) := K8.out.cell 7
  have x8 : w10.cell? ⟨w7.heap.size, 8, none⟩ = some (.int .i64 X1.r.y) := K8.out.cell 8
  have x9 : w10.cell? ⟨w7.heap.size, 9, none⟩ = some (.slice X1.A X1.cl.length X1.a) := K8.out.cell 9
  have x10 : w10.cell? ⟨w7.heap.size, 10, none⟩ = some (.slice X1.B X1.vt.length X1.b) := K8.out.cell 10
  have y0 : w10.cell? ⟨w.heap.size + 1, 0, none⟩ = some (.int .i64 q.k) := KQ.out.cell 0
  have y1 : w10.cell? ⟨w.heap.size + 1, 1, none⟩ = some (.int .i64 q.f) := KQ.out.cell 1
  have y2 : w10.cell? ⟨w.heap.size + 1, 2, none⟩ = some (.int .i64 q.v) := KQ.out.cell 2
  have y3 : w10.cell? ⟨w.heap.size + 1, 3, none⟩ = some (.int .i64 q.s) := KQ.out.cell 3
  have y4 : w10.cell? ⟨w.heap.size + 1, 4, none⟩ = some (.int .i64 q.r.c) := KQ.out.cell 4
  have y5 : w10.cell? ⟨w.heap.size + 1, 5, none⟩ = some (.int .i64 q.r.n) := KQ.out.cell 5
  have y6 : w10.cell? ⟨w.heap.size + 1, 6, none⟩ = some (.int .i64 q.r.o) := KQ.out.cell 6
  have y7 : w10.cell? ⟨w.heap.size + 1, 7, none⟩ = some (.int .i64 q.r.x) := KQ.out.cell 7
  have y8 : w10.cell? ⟨w.heap.size + 1, 8, none⟩ = some (.int .i64 q.r.y) := KQ.out.cell 8
  have y9 : w10.cell? ⟨w.heap.size + 1, 9, none⟩ = some (.slice q.A q.cl.length q.a) := KQ.out.cell 9
  have y10 : w10.cell? ⟨w.heap.size + 1, 10, none⟩ = some (.slice q.B q.vt.length q.b) := KQ.out.cell 10
  go_wp2_with (fail)
  refine wp_region_held_drew (S := fun w1 => Below w10.heap.size w10 w1) (by kernel_rfl) ((Below.refl _ _).drew) (fun hq16 => ?_)
  refine takeD 0 40 (v := ?_) rfl rfl (by kernel_rfl) (by kernel_rfl) (by kernel_rfl) (fun _ _ _ h => h) (Or.inl ⟨by rfl, ?_⟩) (by assumption) ?_
  rotate_left
  · intro w1 hSw; obtain ⟨hcS, hfS⟩ := bcell hSw; go_simp; (try with_reducible rfl)
  (try simp only [Act.put, List.setIfInBounds_toArray, List.set_cons_zero, List.set_cons_succ])
  refine takeD 1 41 (v := ?_) rfl rfl (by kernel_rfl) (by kernel_rfl) (by kernel_rfl) (fun _ _ _ h => h) (Or.inl ⟨by rfl, ?_⟩) (by assumption) ?_
  rotate_left
  · intro w1 hSw; obtain ⟨hcS, hfS⟩ := bcell hSw; go_simp; (try with_reducible rfl)
  (try simp only [Act.put, List.setIfInBounds_toArray, List.set_cons_zero, List.set_cons_succ])
  refine wpAnyH_ready (rs := [2]) (by kernel_rfl) (by simp) ?_
  refine AllReadyH.cons rfl (fun K hK => ?_) AllReadyH.nil
  go_simp
  refine (toMsg q _ (QR.out.below (Below.and BW.out hq16)) sq).mono ?_
  rintro e w11 ⟨Q2, rfl, hmQ2, hoQ2, hb⟩
  refine hK.out _ _ (Below.and hq16 hb) (fun hq162 => ?_)
  clear hK K
  (try simp only [Act.put, List.setIfInBounds_toArray, List.set_cons_zero, List.set_cons_succ])
  refine wpAnyH_ready (rs := [3]) (by kernel_rfl) (by simp) ?_
  refine AllReadyH.cons rfl (fun K hK => ?_) AllReadyH.nil
  go_simp
  refine (eqMsg X1 Q2 _ ((OX1.out.below hq162).rd) hoQ2.rd).mono ?_
  rintro e w12 ⟨he, hb⟩
  obtain rfl := he.trans (ret_bool (show decide (X1.mg = Q2.mg) = true by rw [HMX1.out, hmQ2]; exact decide_eq_true rfl))
  refine hK.out _ _ (Below.and hq162 hb) (fun hq163 => ?_)
  clear hK K
  (try simp only [Act.put, List.setIfInBounds_toArray, List.set_cons_zero, List.set_cons_succ])
  refine takeD 4 44 (v := ?_) rfl rfl (by kernel_rfl) (by kernel_rfl) (by kernel_rfl) (fun _ _ _ h => h) (Or.inl ⟨by rfl, ?_⟩) (by assumption) ?_
  rotate_left
  · intro w1 hSw; obtain ⟨hcS, hfS⟩ := bcell hSw; go_simp; (try with_reducible rfl)
  (try simp only [Act.put, List.setIfInBounds_toArray, List.set_cons_zero, List.set_cons_succ])
  refine wpAnyH_done (by kernel_rfl) ?_ _
  have BW := Lib.hid (Below.and BW.out hq163)
  go_wp2
  go_light
  go_ret
  exact ⟨rfl, BW.out⟩
end Go.Proofs.Ytephmhgjhjheaaa
