/- The exact law of SaidHas, walked. -/
import Derived.Test.YtephmhgjhjheaaaW
namespace Go.Proofs.Ytephmhgjhjheaaa
open Go.ChangeShapes Go.WideShapes Go.ChangeAt Go.RowKit
set_option linter.unusedVariables false

theorem hasB_congr {P P' : List MgP} {m m' : MgP} (h : P'.map MgP.mg = P.map MgP.mg) (hm : m'.mg = m.mg) : hasB P' m' = hasB P m := by
  have e : ∀ (L : List MgP) (x : MgP), hasB L x = (L.map MgP.mg).any fun y => decide (y = x.mg) := fun L x => by unfold hasB; rw [List.any_map]; rfl
  rw [e, e, h, hm]

set_option maxRecDepth 100000 in
set_option maxHeartbeats 4000000 in
theorem exactSaidHas (A : Option Addr) (c : Nat) (P : List MgP) (q : MgP) (w : World) (hn : P.length ≤ maxLen) (hp : RdMs w A P) (hq : q.rd w) :
    Calls Try.prog 15 #[.slice A P.length c, q.val] w fun e w' => e = .returned (.bool true) ∧ Below w.heap.size w w' := by
  have BW : Hid (Below w.heap.size w (w.alloc (.cells #[.int .i64 q.k, .int .i64 q.f, .int .i64 q.v, .int .i64 q.s, .int .i64 q.r.c, .int .i64 q.r.n, .int .i64 q.r.o, .int .i64 q.r.x, .int .i64 q.r.y, .slice q.A q.cl.length q.a, .slice q.B q.vt.length q.b] 79))) := (Below.refl _ _).alloc (Nat.le_refl _) _
  have KQ : Hid (Blk (w.alloc (.cells #[.int .i64 q.k, .int .i64 q.f, .int .i64 q.v, .int .i64 q.s, .int .i64 q.r.c, .int .i64 q.r.n, .int .i64 q.r.o, .int .i64 q.r.x, .int .i64 q.r.y, .slice q.A q.cl.length q.a, .slice q.B q.vt.length q.b] 79)) w.heap.size 79 #[.int .i64 q.k, .int .i64 q.f, .int .i64 q.v, .int .i64 q.s, .int .i64 q.r.c, .int .i64 q.r.n, .int .i64 q.r.o, .int .i64 q.r.x, .int .i64 q.r.y, .slice q.A q.cl.length q.a, .slice q.B q.vt.length q.b]) := Blk.new w
  have SR := Lib.hid hp
  have QR := Lib.hid hq
  clear hp hq
  go_enter Try.func15, Try.ntmps15
  go_wp2_with (fail)
  refine (szMsgS A c P 1048576 _ hn (by omega) (by omega) (RdMs.below SR.out BW.out)).mono ?_
  rintro e w1 ⟨rfl, hb⟩
  have BW := Lib.hid (Below.and BW.out hb)
  have KQ := Lib.hid (KQ.out.below hb)
  clear hb
  by_cases hz : szR 1048576 (szMs P) < 0
  · generalize szR 1048576 (szMs P) = z at hz
    go_wp2
    go_light
    go_ret
    exact ⟨rfl, BW.out⟩
  obtain ⟨sp0, sp1⟩ := szR_neg (by omega) hz
  have ss : szMs P ≤ 1048576 := by omega
  rw [sp1]
  clear hz sp1 sp0
  have y0 : w1.cell? ⟨w.heap.size, 0, none⟩ = some (.int .i64 q.k) := KQ.out.cell 0
  have y1 : w1.cell? ⟨w.heap.size, 1, none⟩ = some (.int .i64 q.f) := KQ.out.cell 1
  have y2 : w1.cell? ⟨w.heap.size, 2, none⟩ = some (.int .i64 q.v) := KQ.out.cell 2
  have y3 : w1.cell? ⟨w.heap.size, 3, none⟩ = some (.int .i64 q.s) := KQ.out.cell 3
  have y4 : w1.cell? ⟨w.heap.size, 4, none⟩ = some (.int .i64 q.r.c) := KQ.out.cell 4
  have y5 : w1.cell? ⟨w.heap.size, 5, none⟩ = some (.int .i64 q.r.n) := KQ.out.cell 5
  have y6 : w1.cell? ⟨w.heap.size, 6, none⟩ = some (.int .i64 q.r.o) := KQ.out.cell 6
  have y7 : w1.cell? ⟨w.heap.size, 7, none⟩ = some (.int .i64 q.r.x) := KQ.out.cell 7
  have y8 : w1.cell? ⟨w.heap.size, 8, none⟩ = some (.int .i64 q.r.y) := KQ.out.cell 8
  have y9 : w1.cell? ⟨w.heap.size, 9, none⟩ = some (.slice q.A q.cl.length q.a) := KQ.out.cell 9
  have y10 : w1.cell? ⟨w.heap.size, 10, none⟩ = some (.slice q.B q.vt.length q.b) := KQ.out.cell 10
  go_wp2_with (fail)
  refine (szMsg q (1048576 - (szMs P : Int)) _ (QR.out.below BW.out) (by omega) (by omega)).mono ?_
  rintro e w2 ⟨rfl, hb⟩
  have BW := Lib.hid (Below.and BW.out hb)
  have KQ := Lib.hid (KQ.out.below hb)
  clear hb
  clear y0 y1 y2 y3 y4 y5 y6 y7 y8 y9 y10
  by_cases hz : szR (1048576 - (szMs P : Int)) q.sz < 0
  · generalize szR (1048576 - (szMs P : Int)) q.sz = z at hz
    go_wp2
    go_light
    go_ret
    exact ⟨rfl, BW.out⟩
  obtain ⟨sq0, sq1⟩ := szR_neg (by omega) hz
  have sq : q.sz ≤ 1048576 := by omega
  rw [sq1]
  have nz : ¬ 1048576 - (szMs P : Int) - (q.sz : Int) < 0 := by omega
  clear hz sq1 sq0
  have y0 : w2.cell? ⟨w.heap.size, 0, none⟩ = some (.int .i64 q.k) := KQ.out.cell 0
  have y1 : w2.cell? ⟨w.heap.size, 1, none⟩ = some (.int .i64 q.f) := KQ.out.cell 1
  have y2 : w2.cell? ⟨w.heap.size, 2, none⟩ = some (.int .i64 q.v) := KQ.out.cell 2
  have y3 : w2.cell? ⟨w.heap.size, 3, none⟩ = some (.int .i64 q.s) := KQ.out.cell 3
  have y4 : w2.cell? ⟨w.heap.size, 4, none⟩ = some (.int .i64 q.r.c) := KQ.out.cell 4
  have y5 : w2.cell? ⟨w.heap.size, 5, none⟩ = some (.int .i64 q.r.n) := KQ.out.cell 5
  have y6 : w2.cell? ⟨w.heap.size, 6, none⟩ = some (.int .i64 q.r.o) := KQ.out.cell 6
  have y7 : w2.cell? ⟨w.heap.size, 7, none⟩ = some (.int .i64 q.r.x) := KQ.out.cell 7
  have y8 : w2.cell? ⟨w.heap.size, 8, none⟩ = some (.int .i64 q.r.y) := KQ.out.cell 8
  have y9 : w2.cell? ⟨w.heap.size, 9, none⟩ = some (.slice q.A q.cl.length q.a) := KQ.out.cell 9
  have y10 : w2.cell? ⟨w.heap.size, 10, none⟩ = some (.slice q.B q.vt.length q.b) := KQ.out.cell 10
  have lq := KQ.out.lt
  -- the model's answer
  go_wp2_with (fail)
  refine wp_region_held_drew (S := fun w1 => Below w2.heap.size w2 w1) (by kernel_rfl) ((Below.refl _ _).drew) (fun hHeld => ?_)
  refine takeD 0 20 (v := ?_) rfl rfl (by kernel_rfl) (by kernel_rfl) (by kernel_rfl) (fun _ _ _ h => h) (Or.inl ⟨by rfl, ?_⟩) (by assumption) ?_
  rotate_left
  · intro w1 hSw; obtain ⟨hcS, hfS⟩ := bcell hSw; go_simp; (try with_reducible rfl)
  (try simp only [Act.put, List.setIfInBounds_toArray, List.set_cons_zero, List.set_cons_succ])
  refine takeD 2 22 (v := ?_) rfl rfl (by kernel_rfl) (by kernel_rfl) (by kernel_rfl) (fun _ _ _ h => h) (Or.inl ⟨by rfl, ?_⟩) (by assumption) ?_
  rotate_left
  · intro w1 hSw; obtain ⟨hcS, hfS⟩ := bcell hSw; go_simp; (try with_reducible rfl)
  (try simp only [Act.put, List.setIfInBounds_toArray, List.set_cons_zero, List.set_cons_succ])
  refine wpAnyH_ready (rs := [1]) (by kernel_rfl) (by simp) ?_
  refine AllReadyH.cons rfl (fun K hK => ?_) AllReadyH.nil
  go_simp
  refine (toMsgS A c P _ ss (RdMs.below SR.out (Below.and BW.out hHeld))).mono ?_
  rintro e w3 ⟨P1, rfl, hmP1, hoP1, hb⟩
  refine hK.out _ _ (Below.and hHeld hb) (fun hHeld2 => ?_)
  clear hK K
  (try simp only [Act.put, List.setIfInBounds_toArray, List.set_cons_zero, List.set_cons_succ])
  refine wpAnyH_ready (rs := [3]) (by kernel_rfl) (by simp) ?_
  refine AllReadyH.cons rfl (fun K hK => ?_) AllReadyH.nil
  go_simp
  refine (toMsg q _ (QR.out.below (Below.and BW.out hHeld2)) sq).mono ?_
  rintro e w4 ⟨Q1, rfl, hmQ1, hoQ1, hb⟩
  have hoP1 := hoP1.below hb
  refine hK.out _ _ (Below.and hHeld2 hb) (fun hHeld3 => ?_)
  clear hK K
  (try simp only [Act.put, List.setIfInBounds_toArray, List.set_cons_zero, List.set_cons_succ])
  refine wpAnyH_ready (rs := [4]) (by kernel_rfl) (by simp) ?_
  refine AllReadyH.cons rfl (fun K hK => ?_) AllReadyH.nil
  go_simp
  refine (specSaidHas _ _ P1 Q1 _ hoP1.len hoP1.rd hoQ1.rd).mono ?_
  rintro e w5 ⟨he, hb⟩
  obtain rfl := he.trans (ret_bool (hasB_congr hmP1 hmQ1))
  refine hK.out _ _ (Below.and hHeld3 hb) (fun hHeld4 => ?_)
  clear hK K
  (try simp only [Act.put, List.setIfInBounds_toArray, List.set_cons_zero, List.set_cons_succ])
  refine takeD 5 6 (v := ?_) rfl rfl (by kernel_rfl) (by kernel_rfl) (by kernel_rfl) (fun _ _ _ h => h) (Or.inl ⟨by rfl, ?_⟩) (by assumption) ?_
  rotate_left
  · intro w1 hSw; obtain ⟨hcS, hfS⟩ := bcell hSw; go_simp; (try with_reducible rfl)
  (try simp only [Act.put, List.setIfInBounds_toArray, List.set_cons_zero, List.set_cons_succ])
  refine wpAnyH_done (by kernel_rfl) ?_ _
  have BW := Lib.hid (Below.and BW.out hHeld4)
  have KQ := Lib.hid (KQ.out.below hHeld4)
  clear y0 y1 y2 y3 y4 y5 y6 y7 y8 y9 y10
  clear lq hHeld hHeld2 hHeld3 hHeld4 hmP1 hoP1 hmQ1 hoQ1
  generalize hD : hasB P q = D
  have HD := Lib.hid hD
  clear hD
  go_wp2_with (fail)
  refine (toMsgS A c P _ ss (RdMs.below SR.out BW.out)).mono ?_
  rintro e w6 ⟨X0, rfl, hm, ho, hb⟩
  have BW := Lib.hid (Below.and BW.out hb)
  have KQ := Lib.hid (KQ.out.below hb)
  have HMX0 := Lib.hid hm
  have OX0 := Lib.hid ho
  clear hm ho hb
  have y0 : w6.cell? ⟨w.heap.size, 0, none⟩ = some (.int .i64 q.k) := KQ.out.cell 0
  have y1 : w6.cell? ⟨w.heap.size, 1, none⟩ = some (.int .i64 q.f) := KQ.out.cell 1
  have y2 : w6.cell? ⟨w.heap.size, 2, none⟩ = some (.int .i64 q.v) := KQ.out.cell 2
  have y3 : w6.cell? ⟨w.heap.size, 3, none⟩ = some (.int .i64 q.s) := KQ.out.cell 3
  have y4 : w6.cell? ⟨w.heap.size, 4, none⟩ = some (.int .i64 q.r.c) := KQ.out.cell 4
  have y5 : w6.cell? ⟨w.heap.size, 5, none⟩ = some (.int .i64 q.r.n) := KQ.out.cell 5
  have y6 : w6.cell? ⟨w.heap.size, 6, none⟩ = some (.int .i64 q.r.o) := KQ.out.cell 6
  have y7 : w6.cell? ⟨w.heap.size, 7, none⟩ = some (.int .i64 q.r.x) := KQ.out.cell 7
  have y8 : w6.cell? ⟨w.heap.size, 8, none⟩ = some (.int .i64 q.r.y) := KQ.out.cell 8
  have y9 : w6.cell? ⟨w.heap.size, 9, none⟩ = some (.slice q.A q.cl.length q.a) := KQ.out.cell 9
  have y10 : w6.cell? ⟨w.heap.size, 10, none⟩ = some (.slice q.B q.vt.length q.b) := KQ.out.cell 10
  go_wp2_with (fail)
  refine (toMsg q _ (QR.out.below BW.out) sq).mono ?_
  rintro e w7 ⟨X1, rfl, hm, ho, hb⟩
  have BW := Lib.hid (Below.and BW.out hb)
  have KQ := Lib.hid (KQ.out.below hb)
  have OX0 := Lib.hid (OX0.out.below hb)
  have HMX1 := Lib.hid hm
  have OX1 := Lib.hid ho
  clear y0 y1 y2 y3 y4 y5 y6 y7 y8 y9 y10
  clear hm ho hb
  have KQ := Lib.hid (KQ.out.alloc ((.cells #[.int .i64 X1.k, .int .i64 X1.f, .int .i64 X1.v, .int .i64 X1.s, .int .i64 X1.r.c, .int .i64 X1.r.n, .int .i64 X1.r.o, .int .i64 X1.r.x, .int .i64 X1.r.y, .slice X1.A X1.cl.length X1.a, .slice X1.B X1.vt.length X1.b] 49)))
  have OX0 := Lib.hid (OX0.out.below ((Below.refl _ _).alloc (Nat.le_refl _) (.cells #[.int .i64 X1.k, .int .i64 X1.f, .int .i64 X1.v, .int .i64 X1.s, .int .i64 X1.r.c, .int .i64 X1.r.n, .int .i64 X1.r.o, .int .i64 X1.r.x, .int .i64 X1.r.y, .slice X1.A X1.cl.length X1.a, .slice X1.B X1.vt.length X1.b] 49)))
  have OX1 := Lib.hid (OX1.out.below ((Below.refl _ _).alloc (Nat.le_refl _) (.cells #[.int .i64 X1.k, .int .i64 X1.f, .int .i64 X1.v, .int .i64 X1.s, .int .i64 X1.r.c, .int .i64 X1.r.n, .int .i64 X1.r.o, .int .i64 X1.r.x, .int .i64 X1.r.y, .slice X1.A X1.cl.length X1.a, .slice X1.B X1.vt.length X1.b] 49)))
  have K8 : Hid (Blk (w7.alloc (.cells #[.int .i64 X1.k, .int .i64 X1.f, .int .i64 X1.v, .int .i64 X1.s, .int .i64 X1.r.c, .int .i64 X1.r.n, .int .i64 X1.r.o, .int .i64 X1.r.x, .int .i64 X1.r.y, .slice X1.A X1.cl.length X1.a, .slice X1.B X1.vt.length X1.b] 49)) w7.heap.size 49 #[.int .i64 X1.k, .int .i64 X1.f, .int .i64 X1.v, .int .i64 X1.s, .int .i64 X1.r.c, .int .i64 X1.r.n, .int .i64 X1.r.o, .int .i64 X1.r.x, .int .i64 X1.r.y, .slice X1.A X1.cl.length X1.a, .slice X1.B X1.vt.length X1.b]) := Blk.new w7
  have BW := Lib.hid (Below.and BW.out ((Below.refl _ _).alloc (Nat.le_refl _) (.cells #[.int .i64 X1.k, .int .i64 X1.f, .int .i64 X1.v, .int .i64 X1.s, .int .i64 X1.r.c, .int .i64 X1.r.n, .int .i64 X1.r.o, .int .i64 X1.r.x, .int .i64 X1.r.y, .slice X1.A X1.cl.length X1.a, .slice X1.B X1.vt.length X1.b] 49)))
  have y0 : (w7.alloc (.cells #[.int .i64 X1.k, .int .i64 X1.f, .int .i64 X1.v, .int .i64 X1.s, .int .i64 X1.r.c, .int .i64 X1.r.n, .int .i64 X1.r.o, .int .i64 X1.r.x, .int .i64 X1.r.y, .slice X1.A X1.cl.length X1.a, .slice X1.B X1.vt.length X1.b] 49)).cell? ⟨w7.heap.size, 0, none⟩ = some (.int .i64 X1.k) := K8.out.cell 0
  have y1 : (w7.alloc (.cells #[.int .i64 X1.k, .int .i64 X1.f, .int .i64 X1.v, .int .i64 X1.s, .int .i64 X1.r.c, .int .i64 X1.r.n, .int .i64 X1.r.o, .int .i64 X1.r.x, .int .i64 X1.r.y, .slice X1.A X1.cl.length X1.a, .slice X1.B X1.vt.length X1.b] 49)).cell? ⟨w7.heap.size, 1, none⟩ = some (.int .i64 X1.f) := K8.out.cell 1
  have y2 : (w7.alloc (.cells #[.int .i64 X1.k, .int .i64 X1.f, .int .i64 X1.v, .int .i64 X1.s, .int .i64 X1.r.c, .int .i64 X1.r.n, .int .i64 X1.r.o, .int .i64 X1.r.x, .int .i64 X1.r.y, .slice X1.A X1.cl.length X1.a, .slice X1.B X1.vt.length X1.b] 49)).cell? ⟨w7.heap.size, 2, none⟩ = some (.int .i64 X1.v) := K8.out.cell 2
  have y3 : (w7.alloc (.cells #[.int .i64 X1.k, .int .i64 X1.f, .int .i64 X1.v, .int .i64 X1.s, .int .i64 X1.r.c, .int .i64 X1.r.n, .int .i64 X1.r.o, .int .i64 X1.r.x, .int .i64 X1.r.y, .slice X1.A X1.cl.length X1.a, .slice X1.B X1.vt.length X1.b] 49)).cell? ⟨w7.heap.size, 3, none⟩ = some (.int .i64 X1.s) := K8.out.cell 3
  have y4 : (w7.alloc (.cells #[.int .i64 X1.k, .int .i64 X1.f, .int .i64 X1.v, .int .i64 X1.s, .int .i64 X1.r.c, .int .i64 X1.r.n, .int .i64 X1.r.o, .int .i64 X1.r.x, .int .i64 X1.r.y, .slice X1.A X1.cl.length X1.a, .slice X1.B X1.vt.length X1.b] 49)).cell? ⟨w7.heap.size, 4, none⟩ = some (.int .i64 X1.r.c) := K8.out.cell 4
  have y5 : (w7.alloc (.cells #[.int .i64 X1.k, .int .i64 X1.f, .int .i64 X1.v, .int .i64 X1.s, .int .i64 X1.r.c, .int .i64 X1.r.n, .int .i64 X1.r.o, .int .i64 X1.r.x, .int .i64 X1.r.y, .slice X1.A X1.cl.length X1.a, .slice X1.B X1.vt.length X1.b] 49)).cell? ⟨w7.heap.size, 5, none⟩ = some (.int .i64 X1.r.n) := K8.out.cell 5
  have y6 : (w7.alloc (.cells #[.int .i64 X1.k, .int .i64 X1.f, .int .i64 X1.v, .int .i64 X1.s, .int .i64 X1.r.c, .int .i64 X1.r.n, .int .i64 X1.r.o, .int .i64 X1.r.x, .int .i64 X1.r.y, .slice X1.A X1.cl.length X1.a, .slice X1.B X1.vt.length X1.b] 49)).cell? ⟨w7.heap.size, 6, none⟩ = some (.int .i64 X1.r.o) := K8.out.cell 6
  have y7 : (w7.alloc (.cells #[.int .i64 X1.k, .int .i64 X1.f, .int .i64 X1.v, .int .i64 X1.s, .int .i64 X1.r.c, .int .i64 X1.r.n, .int .i64 X1.r.o, .int .i64 X1.r.x, .int .i64 X1.r.y, .slice X1.A X1.cl.length X1.a, .slice X1.B X1.vt.length X1.b] 49)).cell? ⟨w7.heap.size, 7, none⟩ = some (.int .i64 X1.r.x) := K8.out.cell 7
  have y8 : (w7.alloc (.cells #[.int .i64 X1.k, .int .i64 X1.f, .int .i64 X1.v, .int .i64 X1.s, .int .i64 X1.r.c, .int .i64 X1.r.n, .int .i64 X1.r.o, .int .i64 X1.r.x, .int .i64 X1.r.y, .slice X1.A X1.cl.length X1.a, .slice X1.B X1.vt.length X1.b] 49)).cell? ⟨w7.heap.size, 8, none⟩ = some (.int .i64 X1.r.y) := K8.out.cell 8
  have y9 : (w7.alloc (.cells #[.int .i64 X1.k, .int .i64 X1.f, .int .i64 X1.v, .int .i64 X1.s, .int .i64 X1.r.c, .int .i64 X1.r.n, .int .i64 X1.r.o, .int .i64 X1.r.x, .int .i64 X1.r.y, .slice X1.A X1.cl.length X1.a, .slice X1.B X1.vt.length X1.b] 49)).cell? ⟨w7.heap.size, 9, none⟩ = some (.slice X1.A X1.cl.length X1.a) := K8.out.cell 9
  have y10 : (w7.alloc (.cells #[.int .i64 X1.k, .int .i64 X1.f, .int .i64 X1.v, .int .i64 X1.s, .int .i64 X1.r.c, .int .i64 X1.r.n, .int .i64 X1.r.o, .int .i64 X1.r.x, .int .i64 X1.r.y, .slice X1.A X1.cl.length X1.a, .slice X1.B X1.vt.length X1.b] 49)).cell? ⟨w7.heap.size, 10, none⟩ = some (.slice X1.B X1.vt.length X1.b) := K8.out.cell 10
  go_wp2_with (fail)
  refine (implSaidHas _ _ X0 X1 _ OX0.out.len OX0.out.rd OX1.out.rd).mono ?_
  rintro e w8 ⟨he, hb⟩
  obtain rfl := he.trans (ret_bool (show hasB X0 X1 = D by rw [hasB_congr HMX0.out HMX1.out, HD.out]))
  have BW := Lib.hid (Below.and BW.out hb)
  have KQ := Lib.hid (KQ.out.below hb)
  have K8 := Lib.hid (K8.out.below hb)
  have OX0 := Lib.hid (OX0.out.below hb)
  have OX1 := Lib.hid (OX1.out.below hb)
  clear y0 y1 y2 y3 y4 y5 y6 y7 y8 y9 y10
  clear hb he
  have bb : (D != D) = false := by simp
  go_wp2_with (fail)
  refine (toMsgS A c P _ ss (RdMs.below SR.out BW.out)).mono ?_
  rintro e w9 ⟨P2, rfl, hm, ho, hb⟩
  have BW := Lib.hid (Below.and BW.out hb)
  have KQ := Lib.hid (KQ.out.below hb)
  have K8 := Lib.hid (K8.out.below hb)
  have OX0 := Lib.hid (OX0.out.below hb)
  have OX1 := Lib.hid (OX1.out.below hb)
  clear hb
  have HM2 := Lib.hid hm
  have O2 := Lib.hid ho
  clear hm ho
  go_wp2_with (fail)
  refine (eqMsgS _ _ _ _ X0 P2 _ OX0.out.len OX0.out.rd O2.out.rd).mono ?_
  rintro e w10 ⟨he, hb⟩
  obtain rfl := he.trans (ret_bool (show decide (X0.map MgP.mg = P2.map MgP.mg) = true by rw [HMX0.out, HM2.out]; exact decide_eq_true rfl))
  have BW := Lib.hid (Below.and BW.out hb)
  have KQ := Lib.hid (KQ.out.below hb)
  have K8 := Lib.hid (K8.out.below hb)
  have OX1 := Lib.hid (OX1.out.below hb)
  clear hb he bb
  have lp := K8.out.lt
  have lq := KQ.out.lt
  have x0 : w10.cell? ⟨w7.heap.size, 0, none⟩ = some (.int .i64 X1.k) := K8.out.cell 0
  have x1 : w10.cell? ⟨w7.heap.size, 1, none⟩ = some (.int .i64 X1.f) := K8.out.cell 1
  have x2 : w10.cell? ⟨w7.heap.size, 2, none⟩ = some (.int .i64 X1.v) := K8.out.cell 2
  have x3 : w10.cell? ⟨w7.heap.size, 3, none⟩ = some (.int .i64 X1.s) := K8.out.cell 3
  have x4 : w10.cell? ⟨w7.heap.size, 4, none⟩ = some (.int .i64 X1.r.c) := K8.out.cell 4
  have x5 : w10.cell? ⟨w7.heap.size, 5, none⟩ = some (.int .i64 X1.r.n) := K8.out.cell 5
  have x6 : w10.cell? ⟨w7.heap.size, 6, none⟩ = some (.int .i64 X1.r.o) := K8.out.cell 6
  have x7 : w10.cell? ⟨w7.heap.size, 7, none⟩ = some (.int .i64 X1.r.x) := K8.out.cell 7
  have x8 : w10.cell? ⟨w7.heap.size, 8, none⟩ = some (.int .i64 X1.r.y) := K8.out.cell 8
  have x9 : w10.cell? ⟨w7.heap.size, 9, none⟩ = some (.slice X1.A X1.cl.length X1.a) := K8.out.cell 9
  have x10 : w10.cell? ⟨w7.heap.size, 10, none⟩ = some (.slice X1.B X1.vt.length X1.b) := K8.out.cell 10
  have y0 : w10.cell? ⟨w.heap.size, 0, none⟩ = some (.int .i64 q.k) := KQ.out.cell 0
  have y1 : w10.cell? ⟨w.heap.size, 1, none⟩ = some (.int .i64 q.f) := KQ.out.cell 1
  have y2 : w10.cell? ⟨w.heap.size, 2, none⟩ = some (.int .i64 q.v) := KQ.out.cell 2
  have y3 : w10.cell? ⟨w.heap.size, 3, none⟩ = some (.int .i64 q.s) := KQ.out.cell 3
  have y4 : w10.cell? ⟨w.heap.size, 4, none⟩ = some (.int .i64 q.r.c) := KQ.out.cell 4
  have y5 : w10.cell? ⟨w.heap.size, 5, none⟩ = some (.int .i64 q.r.n) := KQ.out.cell 5
  have y6 : w10.cell? ⟨w.heap.size, 6, none⟩ = some (.int .i64 q.r.o) := KQ.out.cell 6
  have y7 : w10.cell? ⟨w.heap.size, 7, none⟩ = some (.int .i64 q.r.x) := KQ.out.cell 7
  have y8 : w10.cell? ⟨w.heap.size, 8, none⟩ = some (.int .i64 q.r.y) := KQ.out.cell 8
  have y9 : w10.cell? ⟨w.heap.size, 9, none⟩ = some (.slice q.A q.cl.length q.a) := KQ.out.cell 9
  have y10 : w10.cell? ⟨w.heap.size, 10, none⟩ = some (.slice q.B q.vt.length q.b) := KQ.out.cell 10
  go_wp2_with (fail)
  refine wp_region_held_drew (S := fun w1 => Below w10.heap.size w10 w1) (by kernel_rfl) ((Below.refl _ _).drew) (fun hq16 => ?_)
  refine takeD 0 40 (v := ?_) rfl rfl (by kernel_rfl) (by kernel_rfl) (by kernel_rfl) (fun _ _ _ h => h) (Or.inl ⟨by rfl, ?_⟩) (by assumption) ?_
  rotate_left
  · intro w1 hSw; obtain ⟨hcS, hfS⟩ := bcell hSw; go_simp; (try with_reducible rfl)
  (try simp only [Act.put, List.setIfInBounds_toArray, List.set_cons_zero, List.set_cons_succ])
  refine takeD 1 41 (v := ?_) rfl rfl (by kernel_rfl) (by kernel_rfl) (by kernel_rfl) (fun _ _ _ h => h) (Or.inl ⟨by rfl, ?_⟩) (by assumption) ?_
  rotate_left
  · intro w1 hSw; obtain ⟨hcS, hfS⟩ := bcell hSw; go_simp; (try with_reducible rfl)
  (try simp only [Act.put, List.setIfInBounds_toArray, List.set_cons_zero, List.set_cons_succ])
  refine wpAnyH_ready (rs := [2]) (by kernel_rfl) (by simp) ?_
  refine AllReadyH.cons rfl (fun K hK => ?_) AllReadyH.nil
  go_simp
  refine (toMsg q _ (QR.out.below (Below.and BW.out hq16)) sq).mono ?_
  rintro e w11 ⟨Q2, rfl, hmQ2, hoQ2, hb⟩
  refine hK.out _ _ (Below.and hq16 hb) (fun hq162 => ?_)
  clear hK K
  (try simp only [Act.put, List.setIfInBounds_toArray, List.set_cons_zero, List.set_cons_succ])
  refine wpAnyH_ready (rs := [3]) (by kernel_rfl) (by simp) ?_
  refine AllReadyH.cons rfl (fun K hK => ?_) AllReadyH.nil
  go_simp
  refine (eqMsg X1 Q2 _ ((OX1.out.below hq162).rd) hoQ2.rd).mono ?_
  rintro e w12 ⟨he, hb⟩
  obtain rfl := he.trans (ret_bool (show decide (X1.mg = Q2.mg) = true by rw [HMX1.out, hmQ2]; exact decide_eq_true rfl))
  refine hK.out _ _ (Below.and hq162 hb) (fun hq163 => ?_)
  clear hK K
  (try simp only [Act.put, List.setIfInBounds_toArray, List.set_cons_zero, List.set_cons_succ])
  refine takeD 4 44 (v := ?_) rfl rfl (by kernel_rfl) (by kernel_rfl) (by kernel_rfl) (fun _ _ _ h => h) (Or.inl ⟨by rfl, ?_⟩) (by assumption) ?_
  rotate_left
  · intro w1 hSw; obtain ⟨hcS, hfS⟩ := bcell hSw; go_simp; (try with_reducible rfl)
  (try simp only [Act.put, List.setIfInBounds_toArray, List.set_cons_zero, List.set_cons_succ])
  refine wpAnyH_done (by kernel_rfl) ?_ _
  have BW := Lib.hid (Below.and BW.out hq163)
  go_wp2
  go_light
  go_ret
  exact ⟨rfl, BW.out⟩
end Go.Proofs.Ytephmhgjhjheaaa
