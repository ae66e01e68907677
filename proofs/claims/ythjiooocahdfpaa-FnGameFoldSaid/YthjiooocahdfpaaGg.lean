/- A figure moved. -/
import Derived.Test.YthjiooocahdfpaaGf
namespace Go.Proofs.Ythjiooocahdfpaa
open Go.ChangeShapes Go.WideShapes Go.ChangeAt Go.RowKit
set_option linter.unusedVariables false
set_option linter.unusedSimpArgs false

set_option maxRecDepth 100000 in
set_option maxHeartbeats 4000000 in
theorem moveNo {w : World} {p lo : Nat} {A : Option Addr} {a : Nat} {B : Option Addr} {b : Nat} {C : Option Addr} {d : Nat} {E : List Fig} {F L : List Int} (h : Bd w p lo A a B b C d E F L) (k : Nat) (hk : k < E.length) (fc fx fy fl fg rc rn ro rx ry : Int) (hf : E[k]'hk = ⟨fc, fx, fy, fl, fg⟩)
    (b1 : 0 ≤ fx ∧ fx ≤ 3) (b2 : 0 ≤ fy ∧ fy ≤ 3) (b3 : -9 ≤ rx ∧ rx ≤ 9) (b4 : -9 ≤ ry ∧ ry ≤ 9) (ho : onB (fx + rx) (fy + ry) = false) :
    Calls Try.prog 69 #[.agg #[.pointer (some ⟨p, 0, none⟩), .int .i64 k], .agg #[.int .i64 rc, .int .i64 rn, .int .i64 ro, .int .i64 rx, .int .i64 ry]] w fun e w' => e = .returned (.int .i64 6) ∧ Bd w' p lo A a B b C d E F L ∧ Below lo w w' := by
  obtain ⟨g, rfl, _, _⟩ := own_some h.e (by omega)
  have hlo := (own_block_ge h.e g rfl).1
  have hlw : lo ≤ w.heap.size := by have := (own_block_ge h.e g rfl).2; omega
  have BW : Hid (Below w.heap.size w ((w.alloc (.cells #[.pointer (some ⟨p, 0, none⟩), .int .i64 k] 87)).alloc (.cells #[.int .i64 rc, .int .i64 rn, .int .i64 ro, .int .i64 rx, .int .i64 ry] 35))) := below_alloc2 w _ _
  have H := Lib.hid (h.below BW.out)
  have KR : Hid (Bkk ((w.alloc (.cells #[.pointer (some ⟨p, 0, none⟩), .int .i64 k] 87)).alloc (.cells #[.int .i64 rc, .int .i64 rn, .int .i64 ro, .int .i64 rx, .int .i64 ry] 35)) (w.heap.size + 1) 35 #[.int .i64 rc, .int .i64 rn, .int .i64 ro, .int .i64 rx, .int .i64 ry]) := by have := Bkk.new (t := 35) (cs := #[.int .i64 rc, .int .i64 rn, .int .i64 ro, .int .i64 rx, .int .i64 ry]) (w.alloc (.cells #[.pointer (some ⟨p, 0, none⟩), .int .i64 k] 87)); simpa [Hid] using this
  have HF := Lib.hid hf
  have HO := Lib.hid ho
  have HG := Lib.hid hlo
  have HW := Lib.hid hlw
  clear h hf ho hlo hlw
  go_enter Try.func69, Try.ntmps69
  go_wp2_with (fail)
  refine (entAt p k g E.length a _ H.out.at_.cells.1 hk).mono ?_
  rintro e wa ⟨rfl, hb⟩
  have BB := Lib.hid (Below.and BW.out hb)
  have H := Lib.hid (H.out.below hb)
  have KR := Lib.hid (KR.out.below hb)
  clear hb
  obtain ⟨g', hg', a0, a1, a2, a3, a4⟩ := RdF.of_own H.out.e k hk
  cases hg'
  rw [HF.out] at a0 a1 a2 a3 a4
  simp only at a0 a1 a2 a3 a4
  have x3 : wa.cell? ⟨w.heap.size + 1, 3, none⟩ = some (.int .i64 rx) := KR.out.cell 3
  have x4 : wa.cell? ⟨w.heap.size + 1, 4, none⟩ = some (.int .i64 ry) := KR.out.cell 4
  have l1 : g < wa.heap.size := World.block_lt_of_cell? wa _ a0
  have l2 : w.heap.size + 1 < wa.heap.size := KR.out.lt
  have q1 : IntKind.i64.wrap (fx + rx) = fx + rx := IntWalk.i64_in _ (by omega)
  have q2 : IntKind.i64.wrap (fy + ry) = fy + ry := IntWalk.i64_in _ (by omega)
  go_wp2
  refine wp_region_held_drew (S := fun w1 => Below wa.heap.size wa w1) (by kernel_rfl) ((Below.refl _ _).drew) (fun hHeld => ?_)
  refine takeD 0 10 (v := ?_) rfl rfl (by kernel_rfl) (by kernel_rfl) (by kernel_rfl) (fun _ _ _ h => h) (Or.inl ⟨by rfl, ?_⟩) (by assumption) ?_
  rotate_left
  · intro w1 hSw; obtain ⟨hcS, hfS⟩ := bcell hSw; go_simp; (try with_reducible rfl)
  (try simp only [Act.put, List.setIfInBounds_toArray, List.set_cons_zero, List.set_cons_succ])
  refine takeD 1 11 (v := ?_) rfl rfl (by kernel_rfl) (by kernel_rfl) (by kernel_rfl) (fun _ _ _ h => h) (Or.inl ⟨by rfl, ?_⟩) (by assumption) ?_
  rotate_left
  · intro w1 hSw; obtain ⟨hcS, hfS⟩ := bcell hSw; go_simp; (try with_reducible rfl)
  (try simp only [Act.put, List.setIfInBounds_toArray, List.set_cons_zero, List.set_cons_succ])
  refine takeD 2 12 (v := ?_) rfl rfl (by kernel_rfl) (by kernel_rfl) (by kernel_rfl) (fun _ _ _ h => h) (Or.inl ⟨by rfl, ?_⟩) (by assumption) ?_
  rotate_left
  · intro w1 hSw; obtain ⟨hcS, hfS⟩ := bcell hSw; go_simp; (try with_reducible rfl)
  (try simp only [Act.put, List.setIfInBounds_toArray, List.set_cons_zero, List.set_cons_succ])
  refine takeD 3 13 (v := ?_) rfl rfl (by kernel_rfl) (by kernel_rfl) (by kernel_rfl) (fun _ _ _ h => h) (Or.inl ⟨by rfl, ?_⟩) (by assumption) ?_
  rotate_left
  · intro w1 hSw; obtain ⟨hcS, hfS⟩ := bcell hSw; go_simp; (try with_reducible rfl)
  (try simp only [Act.put, List.setIfInBounds_toArray, List.set_cons_zero, List.set_cons_succ])
  refine takeD 4 14 (v := ?_) rfl rfl (by kernel_rfl) (by kernel_rfl) (by kernel_rfl) (fun _ _ _ h => h) (Or.inl ⟨by rfl, ?_⟩) (by assumption) ?_
  rotate_left
  · intro w1 hSw; obtain ⟨hcS, hfS⟩ := bcell hSw; go_simp; (try with_reducible rfl)
  (try simp only [Act.put, List.setIfInBounds_toArray, List.set_cons_zero, List.set_cons_succ])
  refine takeD 5 15 (v := ?_) rfl rfl (by kernel_rfl) (by kernel_rfl) (by kernel_rfl) (fun _ _ _ h => h) (Or.inl ⟨by rfl, ?_⟩) (by assumption) ?_
  rotate_left
  · intro w1 hSw; obtain ⟨hcS, hfS⟩ := bcell hSw; go_simp; (try with_reducible rfl)
  (try simp only [Act.put, List.setIfInBounds_toArray, List.set_cons_zero, List.set_cons_succ])
  refine takeD 6 16 (v := ?_) rfl rfl (by kernel_rfl) (by kernel_rfl) (by kernel_rfl) (fun _ _ _ h => h) (Or.inl ⟨by rfl, ?_⟩) (by assumption) ?_
  rotate_left
  · intro w1 hSw; obtain ⟨hcS, hfS⟩ := bcell hSw; go_simp; (try with_reducible rfl)
  (try simp only [Act.put, List.setIfInBounds_toArray, List.set_cons_zero, List.set_cons_succ])
  refine takeD 7 17 (v := ?_) rfl rfl (by kernel_rfl) (by kernel_rfl) (by kernel_rfl) (fun _ _ _ h => h) (Or.inl ⟨by rfl, ?_⟩) (by assumption) ?_
  rotate_left
  · intro w1 hSw; obtain ⟨hcS, hfS⟩ := bcell hSw; go_simp; (try with_reducible rfl)
  (try simp only [Act.put, List.setIfInBounds_toArray, List.set_cons_zero, List.set_cons_succ])
  refine takeD 8 18 (v := ?_) rfl rfl (by kernel_rfl) (by kernel_rfl) (by kernel_rfl) (fun _ _ _ h => h) (Or.inl ⟨by rfl, ?_⟩) (by assumption) ?_
  rotate_left
  · intro w1 hSw; obtain ⟨hcS, hfS⟩ := bcell hSw; go_simp; (try with_reducible rfl)
  (try simp only [Act.put, List.setIfInBounds_toArray, List.set_cons_zero, List.set_cons_succ])
  refine takeD 9 19 (v := ?_) rfl rfl (by kernel_rfl) (by kernel_rfl) (by kernel_rfl) (fun _ _ _ h => h) (Or.inl ⟨by rfl, ?_⟩) (by assumption) ?_
  rotate_left
  · intro w1 hSw; obtain ⟨hcS, hfS⟩ := bcell hSw; go_simp; (try with_reducible rfl)
  (try simp only [Act.put, List.setIfInBounds_toArray, List.set_cons_zero, List.set_cons_succ])
  refine takeD 10 20 (v := ?_) rfl rfl (by kernel_rfl) (by kernel_rfl) (by kernel_rfl) (fun _ _ _ h => h) (Or.inl ⟨by rfl, ?_⟩) (by assumption) ?_
  rotate_left
  · intro w1 hSw; obtain ⟨hcS, hfS⟩ := bcell hSw; go_simp; (try with_reducible rfl)
  (try simp only [Act.put, List.setIfInBounds_toArray, List.set_cons_zero, List.set_cons_succ])
  refine takeD 11 21 (v := ?_) rfl rfl (by kernel_rfl) (by kernel_rfl) (by kernel_rfl) (fun _ _ _ h => h) (Or.inl ⟨by rfl, ?_⟩) (by assumption) ?_
  rotate_left
  · intro w1 hSw; obtain ⟨hcS, hfS⟩ := bcell hSw; go_simp; (try with_reducible rfl)
  (try simp only [Act.put, List.setIfInBounds_toArray, List.set_cons_zero, List.set_cons_succ])
  refine takeD 12 22 (v := ?_) rfl rfl (by kernel_rfl) (by kernel_rfl) (by kernel_rfl) (fun _ _ _ h => h) (Or.inl ⟨by rfl, ?_⟩) (by assumption) ?_
  rotate_left
  · intro w1 hSw; obtain ⟨hcS, hfS⟩ := bcell hSw; go_simp; (try with_reducible rfl)
  (try simp only [Act.put, List.setIfInBounds_toArray, List.set_cons_zero, List.set_cons_succ])
  refine takeD 13 23 (v := ?_) rfl rfl (by kernel_rfl) (by kernel_rfl) (by kernel_rfl) (fun _ _ _ h => h) (Or.inl ⟨by rfl, ?_⟩) (by assumption) ?_
  rotate_left
  · intro w1 hSw; obtain ⟨hcS, hfS⟩ := bcell hSw; go_simp; (try with_reducible rfl)
  (try simp only [Act.put, List.setIfInBounds_toArray, List.set_cons_zero, List.set_cons_succ])
  refine takeD 14 6 (v := ?_) rfl rfl (by kernel_rfl) (by kernel_rfl) (by kernel_rfl) (fun _ _ _ h => h) (Or.inl ⟨by rfl, ?_⟩) (by assumption) ?_
  rotate_left
  · intro w1 hSw; obtain ⟨hcS, hfS⟩ := bcell hSw; go_simp; (try with_reducible rfl)
  (try simp only [Act.put, List.setIfInBounds_toArray, List.set_cons_zero, List.set_cons_succ])
  refine takeD 15 7 (v := ?_) rfl rfl (by kernel_rfl) (by kernel_rfl) (by kernel_rfl) (fun _ _ _ h => h) (Or.inl ⟨by rfl, ?_⟩) (by assumption) ?_
  rotate_left
  · intro w1 hSw; obtain ⟨hcS, hfS⟩ := bcell hSw; go_simp; (try with_reducible rfl)
  (try simp only [Act.put, List.setIfInBounds_toArray, List.set_cons_zero, List.set_cons_succ])
  refine wpAnyH_done (by kernel_rfl) ?_ _
  have HD := Lib.hid (H.out.below hHeld)
  clear hHeld
  go_wp2_with (fail)
  refine (onBoard _ _ _).mono ?_
  rintro e w2 ⟨rfl, rfl⟩
  rw [HO.out]
  go_wp2
  go_light
  go_ret
  exact ⟨rfl, HD.out, (BB.out.mono HW.out).drew⟩

set_option maxRecDepth 100000 in
set_option maxHeartbeats 4000000 in
theorem moveYes {w : World} {p lo : Nat} {A : Option Addr} {a : Nat} {B : Option Addr} {b : Nat} {C : Option Addr} {d : Nat} {E : List Fig} {F L : List Int} (h : Bd w p lo A a B b C d E F L) (k : Nat) (hk : k < E.length) (fc fx fy fl fg rc rn ro rx ry : Int) (hf : E[k]'hk = ⟨fc, fx, fy, fl, fg⟩)
    (b1 : 0 ≤ fx ∧ fx ≤ 3) (b2 : 0 ≤ fy ∧ fy ≤ 3) (b3 : -9 ≤ rx ∧ rx ≤ 9) (b4 : -9 ≤ ry ∧ ry ≤ 9) (ho : onB (fx + rx) (fy + ry) = true) :
    Calls Try.prog 69 #[.agg #[.pointer (some ⟨p, 0, none⟩), .int .i64 k], .agg #[.int .i64 rc, .int .i64 rn, .int .i64 ro, .int .i64 rx, .int .i64 ry]] w fun e w' => e = .returned (.int .i64 0) ∧ Bd w' p lo A a B b C d (E.set k ⟨fc, fx + rx, fy + ry, fl, fg⟩) F L ∧ Below lo w w' := by
  obtain ⟨g, rfl, _, _⟩ := own_some h.e (by omega)
  have hlo := (own_block_ge h.e g rfl).1
  have hlw : lo ≤ w.heap.size := by have := (own_block_ge h.e g rfl).2; omega
  have BW : Hid (Below w.heap.size w ((w.alloc (.cells #[.pointer (some ⟨p, 0, none⟩), .int .i64 k] 87)).alloc (.cells #[.int .i64 rc, .int .i64 rn, .int .i64 ro, .int .i64 rx, .int .i64 ry] 35))) := below_alloc2 w _ _
  have H := Lib.hid (h.below BW.out)
  have KR : Hid (Bkk ((w.alloc (.cells #[.pointer (some ⟨p, 0, none⟩), .int .i64 k] 87)).alloc (.cells #[.int .i64 rc, .int .i64 rn, .int .i64 ro, .int .i64 rx, .int .i64 ry] 35)) (w.heap.size + 1) 35 #[.int .i64 rc, .int .i64 rn, .int .i64 ro, .int .i64 rx, .int .i64 ry]) := by have := Bkk.new (t := 35) (cs := #[.int .i64 rc, .int .i64 rn, .int .i64 ro, .int .i64 rx, .int .i64 ry]) (w.alloc (.cells #[.pointer (some ⟨p, 0, none⟩), .int .i64 k] 87)); simpa [Hid] using this
  have HF := Lib.hid hf
  have HO := Lib.hid ho
  have HG := Lib.hid hlo
  have HW := Lib.hid hlw
  clear h hf ho hlo hlw
  go_enter Try.func69, Try.ntmps69
  go_wp2_with (fail)
  refine (entAt p k g E.length a _ H.out.at_.cells.1 hk).mono ?_
  rintro e wa ⟨rfl, hb⟩
  have BB := Lib.hid (Below.and BW.out hb)
  have H := Lib.hid (H.out.below hb)
  have KR := Lib.hid (KR.out.below hb)
  clear hb
  obtain ⟨g', hg', a0, a1, a2, a3, a4⟩ := RdF.of_own H.out.e k hk
  cases hg'
  rw [HF.out] at a0 a1 a2 a3 a4
  simp only at a0 a1 a2 a3 a4
  have x3 : wa.cell? ⟨w.heap.size + 1, 3, none⟩ = some (.int .i64 rx) := KR.out.cell 3
  have x4 : wa.cell? ⟨w.heap.size + 1, 4, none⟩ = some (.int .i64 ry) := KR.out.cell 4
  have l1 : g < wa.heap.size := World.block_lt_of_cell? wa _ a0
  have l2 : w.heap.size + 1 < wa.heap.size := KR.out.lt
  have q1 : IntKind.i64.wrap (fx + rx) = fx + rx := IntWalk.i64_in _ (by omega)
  have q2 : IntKind.i64.wrap (fy + ry) = fy + ry := IntWalk.i64_in _ (by omega)
  go_wp2
  refine wp_region_held_drew (S := fun w1 => Below wa.heap.size wa w1) (by kernel_rfl) ((Below.refl _ _).drew) (fun hHeld => ?_)
  refine takeD 0 10 (v := ?_) rfl rfl (by kernel_rfl) (by kernel_rfl) (by kernel_rfl) (fun _ _ _ h => h) (Or.inl ⟨by rfl, ?_⟩) (by assumption) ?_
  rotate_left
  · intro w1 hSw; obtain ⟨hcS, hfS⟩ := bcell hSw; go_simp; (try with_reducible rfl)
  (try simp only [Act.put, List.setIfInBounds_toArray, List.set_cons_zero, List.set_cons_succ])
  refine takeD 1 11 (v := ?_) rfl rfl (by kernel_rfl) (by kernel_rfl) (by kernel_rfl) (fun _ _ _ h => h) (Or.inl ⟨by rfl, ?_⟩) (by assumption) ?_
  rotate_left
  · intro w1 hSw; obtain ⟨hcS, hfS⟩ := bcell hSw; go_simp; (try with_reducible rfl)
  (try simp only [Act.put, List.setIfInBounds_toArray, List.set_cons_zero, List.set_cons_succ])
  refine takeD 2 12 (v := ?_) rfl rfl (by kernel_rfl) (by kernel_rfl) (by kernel_rfl) (fun _ _ _ h => h) (Or.inl ⟨by rfl, ?_⟩) (by assumption) ?_
  rotate_left
  · intro w1 hSw; obtain ⟨hcS, hfS⟩ := bcell hSw; go_simp; (try with_reducible rfl)
  (try simp only [Act.put, List.setIfInBounds_toArray, List.set_cons_zero, List.set_cons_succ])
  refine takeD 3 13 (v := ?_) rfl rfl (by kernel_rfl) (by kernel_rfl) (by kernel_rfl) (fun _ _ _ h => h) (Or.inl ⟨by rfl, ?_⟩) (by assumption) ?_
  rotate_left
  · intro w1 hSw; obtain ⟨hcS, hfS⟩ := bcell hSw; go_simp; (try with_reducible rfl)
  (try simp only [Act.put, List.setIfInBounds_toArray, List.set_cons_zero, List.set_cons_succ])
  refine takeD 4 14 (v := ?_) rfl rfl (by kernel_rfl) (by kernel_rfl) (by kernel_rfl) (fun _ _ _ h => h) (Or.inl ⟨by rfl, ?_⟩) (by assumption) ?_
  rotate_left
  · intro w1 hSw; obtain ⟨hcS, hfS⟩ := bcell hSw; go_simp; (try with_reducible rfl)
  (try simp only [Act.put, List.setIfInBounds_toArray, List.set_cons_zero, List.set_cons_succ])
  refine takeD 5 15 (v := ?_) rfl rfl (by kernel_rfl) (by kernel_rfl) (by kernel_rfl) (fun _ _ _ h => h) (Or.inl ⟨by rfl, ?_⟩) (by assumption) ?_
  rotate_left
  · intro w1 hSw; obtain ⟨hcS, hfS⟩ := bcell hSw; go_simp; (try with_reducible rfl)
  (try simp only [Act.put, List.setIfInBounds_toArray, List.set_cons_zero, List.set_cons_succ])
  refine takeD 6 16 (v := ?_) rfl rfl (by kernel_rfl) (by kernel_rfl) (by kernel_rfl) (fun _ _ _ h => h) (Or.inl ⟨by rfl, ?_⟩) (by assumption) ?_
  rotate_left
  · intro w1 hSw; obtain ⟨hcS, hfS⟩ := bcell hSw; go_simp; (try with_reducible rfl)
  (try simp only [Act.put, List.setIfInBounds_toArray, List.set_cons_zero, List.set_cons_succ])
  refine takeD 7 17 (v := ?_) rfl rfl (by kernel_rfl) (by kernel_rfl) (by kernel_rfl) (fun _ _ _ h => h) (Or.inl ⟨by rfl, ?_⟩) (by assumption) ?_
  rotate_left
  · intro w1 hSw; obtain ⟨hcS, hfS⟩ := bcell hSw; go_simp; (try with_reducible rfl)
  (try simp only [Act.put, List.setIfInBounds_toArray, List.set_cons_zero, List.set_cons_succ])
  refine takeD 8 18 (v := ?_) rfl rfl (by kernel_rfl) (by kernel_rfl) (by kernel_rfl) (fun _ _ _ h => h) (Or.inl ⟨by rfl, ?_⟩) (by assumption) ?_
  rotate_left
  · intro w1 hSw; obtain ⟨hcS, hfS⟩ := bcell hSw; go_simp; (try with_reducible rfl)
  (try simp only [Act.put, List.setIfInBounds_toArray, List.set_cons_zero, List.set_cons_succ])
  refine takeD 9 19 (v := ?_) rfl rfl (by kernel_rfl) (by kernel_rfl) (by kernel_rfl) (fun _ _ _ h => h) (Or.inl ⟨by rfl, ?_⟩) (by assumption) ?_
  rotate_left
  · intro w1 hSw; obtain ⟨hcS, hfS⟩ := bcell hSw; go_simp; (try with_reducible rfl)
  (try simp only [Act.put, List.setIfInBounds_toArray, List.set_cons_zero, List.set_cons_succ])
  refine takeD 10 20 (v := ?_) rfl rfl (by kernel_rfl) (by kernel_rfl) (by kernel_rfl) (fun _ _ _ h => h) (Or.inl ⟨by rfl, ?_⟩) (by assumption) ?_
  rotate_left
  · intro w1 hSw; obtain ⟨hcS, hfS⟩ := bcell hSw; go_simp; (try with_reducible rfl)
  (try simp only [Act.put, List.setIfInBounds_toArray, List.set_cons_zero, List.set_cons_succ])
  refine takeD 11 21 (v := ?_) rfl rfl (by kernel_rfl) (by kernel_rfl) (by kernel_rfl) (fun _ _ _ h => h) (Or.inl ⟨by rfl, ?_⟩) (by assumption) ?_
  rotate_left
  · intro w1 hSw; obtain ⟨hcS, hfS⟩ := bcell hSw; go_simp; (try with_reducible rfl)
  (try simp only [Act.put, List.setIfInBounds_toArray, List.set_cons_zero, List.set_cons_succ])
  refine takeD 12 22 (v := ?_) rfl rfl (by kernel_rfl) (by kernel_rfl) (by kernel_rfl) (fun _ _ _ h => h) (Or.inl ⟨by rfl, ?_⟩) (by assumption) ?_
  rotate_left
  · intro w1 hSw; obtain ⟨hcS, hfS⟩ := bcell hSw; go_simp; (try with_reducible rfl)
  (try simp only [Act.put, List.setIfInBounds_toArray, List.set_cons_zero, List.set_cons_succ])
  refine takeD 13 23 (v := ?_) rfl rfl (by kernel_rfl) (by kernel_rfl) (by kernel_rfl) (fun _ _ _ h => h) (Or.inl ⟨by rfl, ?_⟩) (by assumption) ?_
  rotate_left
  · intro w1 hSw; obtain ⟨hcS, hfS⟩ := bcell hSw; go_simp; (try with_reducible rfl)
  (try simp only [Act.put, List.setIfInBounds_toArray, List.set_cons_zero, List.set_cons_succ])
  refine takeD 14 6 (v := ?_) rfl rfl (by kernel_rfl) (by kernel_rfl) (by kernel_rfl) (fun _ _ _ h => h) (Or.inl ⟨by rfl, ?_⟩) (by assumption) ?_
  rotate_left
  · intro w1 hSw; obtain ⟨hcS, hfS⟩ := bcell hSw; go_simp; (try with_reducible rfl)
  (try simp only [Act.put, List.setIfInBounds_toArray, List.set_cons_zero, List.set_cons_succ])
  refine takeD 15 7 (v := ?_) rfl rfl (by kernel_rfl) (by kernel_rfl) (by kernel_rfl) (fun _ _ _ h => h) (Or.inl ⟨by rfl, ?_⟩) (by assumption) ?_
  rotate_left
  · intro w1 hSw; obtain ⟨hcS, hfS⟩ := bcell hSw; go_simp; (try with_reducible rfl)
  (try simp only [Act.put, List.setIfInBounds_toArray, List.set_cons_zero, List.set_cons_succ])
  refine wpAnyH_done (by kernel_rfl) ?_ _
  have HD := Lib.hid (H.out.below hHeld)
  clear hHeld
  go_wp2_with (fail)
  refine (onBoard _ _ _).mono ?_
  rintro e w2 ⟨rfl, rfl⟩
  rw [HO.out]
  have ff : ∀ q, wa.frozen? ⟨g, q, none⟩ = false := fun q => H.out.e.frozenAt q
  go_wp2
  go_light
  go_ret
  have S1 := H.out.setE k 1 hk (by decide) (.int .i64 (fx + rx)) ⟨fc, fx + rx, fy, fl, fg⟩ (by rw [HF.out]; rfl)
  have S2 := S1.setE k 2 (by simpa using hk) (by decide) (.int .i64 (fy + ry)) ⟨fc, fx + rx, fy + ry, fl, fg⟩ (by rw [List.getElem_set_self]; rfl)
  rw [List.set_set] at S2
  exact ⟨rfl, S2.below (Below.refl _ _).drew, (Below.setCell (Below.setCell (BB.out.mono HW.out) HG.out _) HG.out _).drew⟩

end Go.Proofs.Ythjiooocahdfpaa
