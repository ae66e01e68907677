/- The exact laws of ClaimReady and ClaimDone, walked. -/
import Derived.Test.YtlokhgnbcbnmpaaKf
import Derived.Test.YtlokhgnbcbnmpaaUn
import Derived.Test.YtlokhgnbcbnmpaaMG
namespace Go.Proofs.Ytlokhgnbcbnmpaa
open Go.ChangeShapes Go.WideShapes Go.ChangeAt Go.RowKit
set_option linter.unusedVariables false
set_option linter.unusedSimpArgs false

theorem szR_nm {left : Int} {n : Nat} (h0 : 0 ≤ left) (h : ¬ szR left n < 0) : (n : Int) ≤ left ∧ szR left n = left - n := by
  unfold szR at h ⊢
  split at h
  · rename_i h1; exact ⟨h1, if_pos h1⟩
  · omega

set_option maxRecDepth 100000 in
set_option maxHeartbeats 4000000 in
theorem exactClaimReady (A : Option Addr) (c : Nat) (P : List MgP) (q : Cl) (w : World) (hn : P.length ≤ maxLen) (hp : RdMs w A P) :
    Calls Try.prog 5 #[.slice A P.length c, q.val] w fun e w' => e = .returned (.bool true) ∧ Below w.heap.size w w' := by
  have BW : Hid (Below w.heap.size w (w.alloc (.cells #[.int .i64 q.s, .int .i64 q.v, .int .i64 q.r.c, .int .i64 q.r.n, .int .i64 q.r.o, .int .i64 q.r.x, .int .i64 q.r.y] 49))) := (Below.refl _ _).alloc (Nat.le_refl _) _
  have KQ : Hid (Blk (w.alloc (.cells #[.int .i64 q.s, .int .i64 q.v, .int .i64 q.r.c, .int .i64 q.r.n, .int .i64 q.r.o, .int .i64 q.r.x, .int .i64 q.r.y] 49)) w.heap.size 49 #[.int .i64 q.s, .int .i64 q.v, .int .i64 q.r.c, .int .i64 q.r.n, .int .i64 q.r.o, .int .i64 q.r.x, .int .i64 q.r.y]) := Blk.new w
  have SR := Lib.hid hp
  clear hp
  go_enter Try.func5, Try.ntmps5
  go_wp2_with (fail)
  refine (szMsgS A c P 1048576 _ hn (by omega) (by omega) (RdMs.below SR.out BW.out)).mono ?_
  rintro e w2 ⟨rfl, hb⟩
  have BW := Lib.hid (Below.and BW.out hb)
  have KQ := Lib.hid (KQ.out.below hb)
  clear hb
  by_cases hz : szR 1048576 (szMs P) < 0
  · generalize szR 1048576 (szMs P) = z at hz
    go_wp2
    go_light
    go_ret
    exact ⟨rfl, BW.out⟩
  obtain ⟨sp0, sp1⟩ := szR_nm (by omega) hz
  have ss : szMs P ≤ 1048576 := by omega
  rw [sp1]
  have nz : ¬ 1048576 - (szMs P : Int) < 0 := by omega
  clear hz sp1 sp0
  have y0 : w2.cell? ⟨w.heap.size, 0, none⟩ = some (.int .i64 q.s) := KQ.out.cell 0
  have y1 : w2.cell? ⟨w.heap.size, 1, none⟩ = some (.int .i64 q.v) := KQ.out.cell 1
  have y2 : w2.cell? ⟨w.heap.size, 2, none⟩ = some (.int .i64 q.r.c) := KQ.out.cell 2
  have y3 : w2.cell? ⟨w.heap.size, 3, none⟩ = some (.int .i64 q.r.n) := KQ.out.cell 3
  have y4 : w2.cell? ⟨w.heap.size, 4, none⟩ = some (.int .i64 q.r.o) := KQ.out.cell 4
  have y5 : w2.cell? ⟨w.heap.size, 5, none⟩ = some (.int .i64 q.r.x) := KQ.out.cell 5
  have y6 : w2.cell? ⟨w.heap.size, 6, none⟩ = some (.int .i64 q.r.y) := KQ.out.cell 6
  have lq := KQ.out.lt
  go_wp2_with (fail)
  refine wp_region_held_drew (S := fun w1 => Below w2.heap.size w2 w1) (by kernel_rfl) ((Below.refl _ _).drew) (fun hHeld => ?_)
  refine takeD 0 14 (v := ?_) rfl rfl (by kernel_rfl) (by kernel_rfl) (by kernel_rfl) (fun _ _ _ h => h) (Or.inl ⟨by rfl, ?_⟩) (by assumption) ?_
  rotate_left
  · intro w1 hSw; obtain ⟨hcS, hfS⟩ := bcell hSw; go_simp; (try with_reducible rfl)
  (try simp only [Act.put, List.setIfInBounds_toArray, List.set_cons_zero, List.set_cons_succ])
  refine takeD 2 16 (v := ?_) rfl rfl (by kernel_rfl) (by kernel_rfl) (by kernel_rfl) (fun _ _ _ h => h) (Or.inl ⟨by rfl, ?_⟩) (by assumption) ?_
  rotate_left
  · intro w1 hSw; obtain ⟨hcS, hfS⟩ := bcell hSw; go_simp; (try with_reducible rfl)
  (try simp only [Act.put, List.setIfInBounds_toArray, List.set_cons_zero, List.set_cons_succ])
  refine wpAnyH_ready (rs := [1]) (by kernel_rfl) (by simp) ?_
  refine AllReadyH.cons rfl (fun K hK => ?_) AllReadyH.nil
  go_simp
  refine (toMsgS A c P _ ss (RdMs.below SR.out (Below.and BW.out hHeld))).mono ?_
  rintro e w3 ⟨P1, rfl, hmP1, hoP1, hb⟩
  refine hK.out _ _ (Below.and hHeld hb) (fun hHeld2 => ?_)
  clear hK K
  (try simp only [Act.put, List.setIfInBounds_toArray, List.set_cons_zero, List.set_cons_succ])
  refine wpAnyH_ready (rs := [3]) (by kernel_rfl) (by simp) ?_
  refine AllReadyH.cons rfl (fun K hK => ?_) AllReadyH.nil
  go_simp
  refine (toClaim q _).mono ?_
  rintro e w4 ⟨rfl, hb⟩
  have hoP1 := hoP1.below hb
  refine hK.out _ _ (Below.and hHeld2 hb) (fun hHeld3 => ?_)
  clear hK K
  (try simp only [Act.put, List.setIfInBounds_toArray, List.set_cons_zero, List.set_cons_succ])
  refine wpAnyH_ready (rs := [4]) (by kernel_rfl) (by simp) ?_
  refine AllReadyH.cons rfl (fun K hK => ?_) AllReadyH.nil
  go_simp
  refine (specClaimReady _ _ P1 q _ hoP1.len hoP1.rd).mono ?_
  rintro e w5 ⟨he, hb⟩
  obtain rfl := he.trans (ret_bool (show (clB q && readyM P1 q) = (clB q && readyM P q) by rw [readyM_congr hmP1]))
  refine hK.out _ _ (Below.and hHeld3 hb) (fun hHeld4 => ?_)
  clear hK K
  (try simp only [Act.put, List.setIfInBounds_toArray, List.set_cons_zero, List.set_cons_succ])
  refine takeD 5 6 (v := ?_) rfl rfl (by kernel_rfl) (by kernel_rfl) (by kernel_rfl) (fun _ _ _ h => h) (Or.inl ⟨by rfl, ?_⟩) (by assumption) ?_
  rotate_left
  · intro w1 hSw; obtain ⟨hcS, hfS⟩ := bcell hSw; go_simp; (try with_reducible rfl)
  (try simp only [Act.put, List.setIfInBounds_toArray, List.set_cons_zero, List.set_cons_succ])
  refine wpAnyH_done (by kernel_rfl) ?_ _
  have BW := Lib.hid (Below.and BW.out hHeld4)
  have KQ := Lib.hid (KQ.out.below hHeld4)
  clear y0 y1 y2 y3 y4 y5 y6
  clear lq hHeld hHeld2 hHeld3 hHeld4 hmP1 hoP1
  generalize hD : (clB q && readyM P q) = D
  have HD := Lib.hid hD
  clear hD
  go_wp2_with (fail)
  refine (toMsgS A c P _ ss (RdMs.below SR.out BW.out)).mono ?_
  rintro e w6 ⟨X0, rfl, hm, ho, hb⟩
  have BW := Lib.hid (Below.and BW.out hb)
  have KQ := Lib.hid (KQ.out.below hb)
  have HMX0 := Lib.hid hm
  have OX0 := Lib.hid ho
  clear hm ho hb
  have y0 : w6.cell? ⟨w.heap.size, 0, none⟩ = some (.int .i64 q.s) := KQ.out.cell 0
  have y1 : w6.cell? ⟨w.heap.size, 1, none⟩ = some (.int .i64 q.v) := KQ.out.cell 1
  have y2 : w6.cell? ⟨w.heap.size, 2, none⟩ = some (.int .i64 q.r.c) := KQ.out.cell 2
  have y3 : w6.cell? ⟨w.heap.size, 3, none⟩ = some (.int .i64 q.r.n) := KQ.out.cell 3
  have y4 : w6.cell? ⟨w.heap.size, 4, none⟩ = some (.int .i64 q.r.o) := KQ.out.cell 4
  have y5 : w6.cell? ⟨w.heap.size, 5, none⟩ = some (.int .i64 q.r.x) := KQ.out.cell 5
  have y6 : w6.cell? ⟨w.heap.size, 6, none⟩ = some (.int .i64 q.r.y) := KQ.out.cell 6
  go_wp2_with (fail)
  refine (toClaim q _).mono ?_
  rintro e w7 ⟨rfl, hb⟩
  have BW := Lib.hid (Below.and BW.out hb)
  have OX0 := Lib.hid (OX0.out.below hb)
  clear y0 y1 y2 y3 y4 y5 y6
  clear hb
  go_wp2_with (fail)
  refine (implClaimReady _ _ X0 q _ OX0.out.len OX0.out.rd).mono ?_
  rintro e w8 ⟨he, hb⟩
  obtain rfl := he.trans (ret_bool (show (clB q && readyM X0 q) = D by rw [readyM_congr HMX0.out, HD.out]))
  have BW := Lib.hid (Below.and BW.out hb)
  have OX0 := Lib.hid (OX0.out.below hb)
  clear hb he
  have bb : (D != D) = false := by simp
  go_wp2_with (fail)
  refine (toMsgS A c P _ ss (RdMs.below SR.out BW.out)).mono ?_
  rintro e w9 ⟨P2, rfl, hm, ho, hb⟩
  have BW := Lib.hid (Below.and BW.out hb)
  have OX0 := Lib.hid (OX0.out.below hb)
  clear hb
  have HM2 := Lib.hid hm
  have O2 := Lib.hid ho
  clear hm ho
  go_wp2_with (fail)
  refine (eqMsgS _ _ _ _ X0 P2 _ OX0.out.len OX0.out.rd O2.out.rd).mono ?_
  rintro e w10 ⟨he, hb⟩
  obtain rfl := he.trans (ret_bool (show decide (X0.map MgP.mg = P2.map MgP.mg) = true by rw [HMX0.out, HM2.out]; exact decide_eq_true rfl))
  have BW := Lib.hid (Below.and BW.out hb)
  clear hb he bb
  go_wp2
  go_light
  go_ret
  exact ⟨rfl, BW.out⟩

set_option maxRecDepth 100000 in
set_option maxHeartbeats 4000000 in
theorem exactClaimDone (A : Option Addr) (c : Nat) (P : List MgP) (q : Cl) (w : World) (hn : P.length ≤ maxLen) (hp : RdMs w A P) :
    Calls Try.prog 6 #[.slice A P.length c, q.val] w fun e w' => e = .returned (.bool true) ∧ Below w.heap.size w w' := by
  have BW : Hid (Below w.heap.size w (w.alloc (.cells #[.int .i64 q.s, .int .i64 q.v, .int .i64 q.r.c, .int .i64 q.r.n, .int .i64 q.r.o, .int .i64 q.r.x, .int .i64 q.r.y] 49))) := (Below.refl _ _).alloc (Nat.le_refl _) _
  have KQ : Hid (Blk (w.alloc (.cells #[.int .i64 q.s, .int .i64 q.v, .int .i64 q.r.c, .int .i64 q.r.n, .int .i64 q.r.o, .int .i64 q.r.x, .int .i64 q.r.y] 49)) w.heap.size 49 #[.int .i64 q.s, .int .i64 q.v, .int .i64 q.r.c, .int .i64 q.r.n, .int .i64 q.r.o, .int .i64 q.r.x, .int .i64 q.r.y]) := Blk.new w
  have SR := Lib.hid hp
  clear hp
  go_enter Try.func6, Try.ntmps6
  go_wp2_with (fail)
  refine (szMsgS A c P 1048576 _ hn (by omega) (by omega) (RdMs.below SR.out BW.out)).mono ?_
  rintro e w2 ⟨rfl, hb⟩
  have BW := Lib.hid (Below.and BW.out hb)
  have KQ := Lib.hid (KQ.out.below hb)
  clear hb
  by_cases hz : szR 1048576 (szMs P) < 0
  · generalize szR 1048576 (szMs P) = z at hz
    go_wp2
    go_light
    go_ret
    exact ⟨rfl, BW.out⟩
  obtain ⟨sp0, sp1⟩ := szR_nm (by omega) hz
  have ss : szMs P ≤ 1048576 := by omega
  rw [sp1]
  have nz : ¬ 1048576 - (szMs P : Int) < 0 := by omega
  clear hz sp1 sp0
  have y0 : w2.cell? ⟨w.heap.size, 0, none⟩ = some (.int .i64 q.s) := KQ.out.cell 0
  have y1 : w2.cell? ⟨w.heap.size, 1, none⟩ = some (.int .i64 q.v) := KQ.out.cell 1
  have y2 : w2.cell? ⟨w.heap.size, 2, none⟩ = some (.int .i64 q.r.c) := KQ.out.cell 2
  have y3 : w2.cell? ⟨w.heap.size, 3, none⟩ = some (.int .i64 q.r.n) := KQ.out.cell 3
  have y4 : w2.cell? ⟨w.heap.size, 4, none⟩ = some (.int .i64 q.r.o) := KQ.out.cell 4
  have y5 : w2.cell? ⟨w.heap.size, 5, none⟩ = some (.int .i64 q.r.x) := KQ.out.cell 5
  have y6 : w2.cell? ⟨w.heap.size, 6, none⟩ = some (.int .i64 q.r.y) := KQ.out.cell 6
  have lq := KQ.out.lt
  go_wp2_with (fail)
  refine wp_region_held_drew (S := fun w1 => Below w2.heap.size w2 w1) (by kernel_rfl) ((Below.refl _ _).drew) (fun hHeld => ?_)
  refine takeD 0 14 (v := ?_) rfl rfl (by kernel_rfl) (by kernel_rfl) (by kernel_rfl) (fun _ _ _ h => h) (Or.inl ⟨by rfl, ?_⟩) (by assumption) ?_
  rotate_left
  · intro w1 hSw; obtain ⟨hcS, hfS⟩ := bcell hSw; go_simp; (try with_reducible rfl)
  (try simp only [Act.put, List.setIfInBounds_toArray, List.set_cons_zero, List.set_cons_succ])
  refine takeD 2 16 (v := ?_) rfl rfl (by kernel_rfl) (by kernel_rfl) (by kernel_rfl) (fun _ _ _ h => h) (Or.inl ⟨by rfl, ?_⟩) (by assumption) ?_
  rotate_left
  · intro w1 hSw; obtain ⟨hcS, hfS⟩ := bcell hSw; go_simp; (try with_reducible rfl)
  (try simp only [Act.put, List.setIfInBounds_toArray, List.set_cons_zero, List.set_cons_succ])
  refine wpAnyH_ready (rs := [1]) (by kernel_rfl) (by simp) ?_
  refine AllReadyH.cons rfl (fun K hK => ?_) AllReadyH.nil
  go_simp
  refine (toMsgS A c P _ ss (RdMs.below SR.out (Below.and BW.out hHeld))).mono ?_
  rintro e w3 ⟨P1, rfl, hmP1, hoP1, hb⟩
  refine hK.out _ _ (Below.and hHeld hb) (fun hHeld2 => ?_)
  clear hK K
  (try simp only [Act.put, List.setIfInBounds_toArray, List.set_cons_zero, List.set_cons_succ])
  refine wpAnyH_ready (rs := [3]) (by kernel_rfl) (by simp) ?_
  refine AllReadyH.cons rfl (fun K hK => ?_) AllReadyH.nil
  go_simp
  refine (toClaim q _).mono ?_
  rintro e w4 ⟨rfl, hb⟩
  have hoP1 := hoP1.below hb
  refine hK.out _ _ (Below.and hHeld2 hb) (fun hHeld3 => ?_)
  clear hK K
  (try simp only [Act.put, List.setIfInBounds_toArray, List.set_cons_zero, List.set_cons_succ])
  refine wpAnyH_ready (rs := [4]) (by kernel_rfl) (by simp) ?_
  refine AllReadyH.cons rfl (fun K hK => ?_) AllReadyH.nil
  go_simp
  refine (specClaimDone _ _ P1 q _ hoP1.len hoP1.rd).mono ?_
  rintro e w5 ⟨he, hb⟩
  obtain rfl := he.trans (ret_bool (show (clB q && doneM P1 q) = (clB q && doneM P q) by rw [doneM_congr hmP1]))
  refine hK.out _ _ (Below.and hHeld3 hb) (fun hHeld4 => ?_)
  clear hK K
  (try simp only [Act.put, List.setIfInBounds_toArray, List.set_cons_zero, List.set_cons_succ])
  refine takeD 5 6 (v := ?_) rfl rfl (by kernel_rfl) (by kernel_rfl) (by kernel_rfl) (fun _ _ _ h => h) (Or.inl ⟨by rfl, ?_⟩) (by assumption) ?_
  rotate_left
  · intro w1 hSw; obtain ⟨hcS, hfS⟩ := bcell hSw; go_simp; (try with_reducible rfl)
  (try simp only [Act.put, List.setIfInBounds_toArray, List.set_cons_zero, List.set_cons_succ])
  refine wpAnyH_done (by kernel_rfl) ?_ _
  have BW := Lib.hid (Below.and BW.out hHeld4)
  have KQ := Lib.hid (KQ.out.below hHeld4)
  clear y0 y1 y2 y3 y4 y5 y6
  clear lq hHeld hHeld2 hHeld3 hHeld4 hmP1 hoP1
  generalize hD : (clB q && doneM P q) = D
  have HD := Lib.hid hD
  clear hD
  go_wp2_with (fail)
  refine (toMsgS A c P _ ss (RdMs.below SR.out BW.out)).mono ?_
  rintro e w6 ⟨X0, rfl, hm, ho, hb⟩
  have BW := Lib.hid (Below.and BW.out hb)
  have KQ := Lib.hid (KQ.out.below hb)
  have HMX0 := Lib.hid hm
  have OX0 := Lib.hid ho
  clear hm ho hb
  have y0 : w6.cell? ⟨w.heap.size, 0, none⟩ = some (.int .i64 q.s) := KQ.out.cell 0
  have y1 : w6.cell? ⟨w.heap.size, 1, none⟩ = some (.int .i64 q.v) := KQ.out.cell 1
  have y2 : w6.cell? ⟨w.heap.size, 2, none⟩ = some (.int .i64 q.r.c) := KQ.out.cell 2
  have y3 : w6.cell? ⟨w.heap.size, 3, none⟩ = some (.int .i64 q.r.n) := KQ.out.cell 3
  have y4 : w6.cell? ⟨w.heap.size, 4, none⟩ = some (.int .i64 q.r.o) := KQ.out.cell 4
  have y5 : w6.cell? ⟨w.heap.size, 5, none⟩ = some (.int .i64 q.r.x) := KQ.out.cell 5
  have y6 : w6.cell? ⟨w.heap.size, 6, none⟩ = some (.int .i64 q.r.y) := KQ.out.cell 6
  go_wp2_with (fail)
  refine (toClaim q _).mono ?_
  rintro e w7 ⟨rfl, hb⟩
  have BW := Lib.hid (Below.and BW.out hb)
  have OX0 := Lib.hid (OX0.out.below hb)
  clear y0 y1 y2 y3 y4 y5 y6
  clear hb
  go_wp2_with (fail)
  refine (implClaimDone _ _ X0 q _ OX0.out.len OX0.out.rd).mono ?_
  rintro e w8 ⟨he, hb⟩
  obtain rfl := he.trans (ret_bool (show (clB q && doneM X0 q) = D by rw [doneM_congr HMX0.out, HD.out]))
  have BW := Lib.hid (Below.and BW.out hb)
  have OX0 := Lib.hid (OX0.out.below hb)
  clear hb he
  have bb : (D != D) = false := by simp
  go_wp2_with (fail)
  refine (toMsgS A c P _ ss (RdMs.below SR.out BW.out)).mono ?_
  rintro e w9 ⟨P2, rfl, hm, ho, hb⟩
  have BW := Lib.hid (Below.and BW.out hb)
  have OX0 := Lib.hid (OX0.out.below hb)
  clear hb
  have HM2 := Lib.hid hm
  have O2 := Lib.hid ho
  clear hm ho
  go_wp2_with (fail)
  refine (eqMsgS _ _ _ _ X0 P2 _ OX0.out.len OX0.out.rd O2.out.rd).mono ?_
  rintro e w10 ⟨he, hb⟩
  obtain rfl := he.trans (ret_bool (show decide (X0.map MgP.mg = P2.map MgP.mg) = true by rw [HMX0.out, HM2.out]; exact decide_eq_true rfl))
  have BW := Lib.hid (Below.and BW.out hb)
  clear hb he bb
  go_wp2
  go_light
  go_ret
  exact ⟨rfl, BW.out⟩

end Go.Proofs.Ytlokhgnbcbnmpaa
