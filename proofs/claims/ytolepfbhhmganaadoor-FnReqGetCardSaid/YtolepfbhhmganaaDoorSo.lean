/- A request read from a text: the model's side. -/
import Derived.Test.YtolepfbhhmganaaDoorSm
namespace Go.Proofs.YtolepfbhhmganaaDoor
open Go.ChangeShapes Go.WideShapes Go.ChangeAt Go.RowKit
set_option linter.unusedVariables false
set_option linter.unusedSimpArgs false

theorem opT_bd (l : List UInt8) : 0 ≤ opT l ∧ opT l ≤ 5 := by
  unfold opT
  (repeat' split) <;> omega
theorem opT_is {l : List UInt8} {k : Nat} (h1 : 1 ≤ k) (h5 : k ≤ 5) : wordN k = l ↔ opT l = (k : Int) := by
  constructor
  · rintro rfl; exact opT_word k h1 h5
  · intro h
    unfold opT at h
    have hk : k = 1 ∨ k = 2 ∨ k = 3 ∨ k = 4 ∨ k = 5 := by omega
    by_cases q1 : l = wordN 1
    · rw [if_pos q1] at h; obtain rfl : k = 1 := by omega
      exact q1.symm
    rw [if_neg q1] at h
    by_cases q2 : l = wordN 2
    · rw [if_pos q2] at h; obtain rfl : k = 2 := by omega
      exact q2.symm
    rw [if_neg q2] at h
    by_cases q3 : l = wordN 3
    · rw [if_pos q3] at h; obtain rfl : k = 3 := by omega
      exact q3.symm
    rw [if_neg q3] at h
    by_cases q4 : l = wordN 4
    · rw [if_pos q4] at h; obtain rfl : k = 4 := by omega
      exact q4.symm
    rw [if_neg q4] at h
    by_cases q5 : l = wordN 5
    · rw [if_pos q5] at h; obtain rfl : k = 5 := by omega
      exact q5.symm
    rw [if_neg q5] at h
    omega
/-- The operation found among the first words. -/
def opAt (q : Int) (k : Nat) : Int := if q < k then q else 0
theorem opAt_one (q : Int) (h : 0 ≤ q) : opAt q 1 = 0 := by unfold opAt; split <;> omega
theorem opAt_six (q : Int) (h : q ≤ 5) : opAt q 6 = q := by unfold opAt; rw [if_pos (by omega)]
theorem opAt_hit {q : Int} {k : Nat} (h : q = k) : opAt q (k + 1) = k := by unfold opAt; rw [if_pos (by omega), h]
theorem opAt_miss {q : Int} {k : Nat} (h : q ≠ k) : opAt q (k + 1) = opAt q k := by unfold opAt; split <;> split <;> omega
theorem bigget_none (s : ByteArray) (w : World) (hl : s.data.toList = [110, 111, 110, 101]) :
    Calls Tryd.prog 14 #[.string s] w fun e w' => e = .returned (.tuple #[.agg #[.int .i64 0, .int .i64 0, .int .i64 0, .int .i64 0, .int .i64 0], .bool true]) ∧ Below w.heap.size w w' := by
  have e1 : (s.toList == [110, 111, 110, 101]) = true := by rw [toList_data, hl]; rfl
  clear hl
  go_enter Tryd.func14, Tryd.ntmps14
  go_wp2
  exact bodyPost_ret (v := .tuple #[.agg #[.int .i64 0, .int .i64 0, .int .i64 0, .int .i64 0, .int .i64 0], .bool true]) (by simp [results, Tryd.results14, go_sem]) rfl ⟨rfl, (Below.refl _ _).alloc (Nat.le_refl _) _⟩

set_option maxRecDepth 100000 in
set_option maxHeartbeats 2000000 in
theorem specGet_few (s : ByteArray) (w : World) (hs : s.size ≤ 1048576) (hl : s.data.toList ≠ [110, 111, 110, 101]) (n : Nat) (S : List ByteArray) (hS : Lib.splitB ⟨#[32]⟩ 0 5 s = S) (hn : S.length = n) (h5 : n ≠ 5) :
    Calls Tryd.prog 14 #[.string s] w fun e w' => e = .returned (.tuple #[.agg #[.int .i64 0, .int .i64 0, .int .i64 0, .int .i64 0, .int .i64 0], .bool false]) ∧ Below w.heap.size w w' := by
  have e1 : (s.toList == [110, 111, 110, 101]) = false := by rw [beq_eq_false_iff_ne, toList_data]; exact hl
  have e5 : ((n : Int) != 5) = true := by simp; omega
  have HS := Lib.hid hS
  have HN := Lib.hid hn
  have B0 : Hid (Below w.heap.size w (w.alloc (.cells #[.int .i64 0, .int .i64 0, .int .i64 0, .int .i64 0, .int .i64 0] 25))) := (Below.refl _ _).alloc (Nat.le_refl _) _
  have K0 : Hid (Bkk (w.alloc (.cells #[.int .i64 0, .int .i64 0, .int .i64 0, .int .i64 0, .int .i64 0] 25)) w.heap.size 25 #[.int .i64 0, .int .i64 0, .int .i64 0, .int .i64 0, .int .i64 0]) := Bkk.new w
  clear hS hn h5 hl
  go_enter Tryd.func14, Tryd.ntmps14
  go_wp2_with (fail)
  refine (l1Cut s _ (by omega)).mono ?_
  rintro e w1 ⟨B, d, he, ho, hb⟩
  rw [HS.out, HN.out] at he
  subst he
  have BX := Lib.hid (Below.and B0.out hb)
  have KR := Lib.hid (K0.out.below hb)
  clear hb ho
  have z0 : w1.cell? ⟨w.heap.size, 0, none⟩ = some (.int .i64 0) := KR.out.cell 0
  have z1 : w1.cell? ⟨w.heap.size, 1, none⟩ = some (.int .i64 0) := KR.out.cell 1
  have z2 : w1.cell? ⟨w.heap.size, 2, none⟩ = some (.int .i64 0) := KR.out.cell 2
  have z3 : w1.cell? ⟨w.heap.size, 3, none⟩ = some (.int .i64 0) := KR.out.cell 3
  have z4 : w1.cell? ⟨w.heap.size, 4, none⟩ = some (.int .i64 0) := KR.out.cell 4
  have zf := KR.out.frozen
  have zl := KR.out.lt
  go_wp2
  refine bodyPost_ret (v := .tuple #[.agg #[.int .i64 0, .int .i64 0, .int .i64 0, .int .i64 0, .int .i64 0], .bool false]) (by simp [results, Tryd.results14, go_sem, z0, z1, z2, z3, z4]) rfl ⟨rfl, ?_⟩
  iterate 5 (refine Below.setCell ?_ (by first | (simp; done) | (simp; omega)) _)
  exact BX.out

theorem l1WordsB (w : World) : Calls Tryd.prog 32 #[] w fun e w' => e = .returned (.slice (some ⟨w.heap.size, 0, none⟩) 6 6) ∧ Hid (∀ k, k ≤ 5 → w'.cell? ⟨w.heap.size, k, none⟩ = some (bsV (wordN k))) ∧ Below w.heap.size w w' :=
  (l1Words w).mono fun e w' ⟨he, hw⟩ => by
    subst hw
    exact ⟨he, fun k hk => words_at w k hk, (Below.refl _ _).alloc (Nat.le_refl _) _⟩
theorem cell_far {w : World} {g o g' : Nat} {u : Value} (h : w.cell? ⟨g, o, none⟩ = some u) (hg : g ≠ g') (j : Nat) (v : Value) : (w.setCell ⟨g', j, none⟩ v).cell? ⟨g, o, none⟩ = some u := by
  rw [World.cell?_setCell_other _ _ _ _ (by intro e; exact hg (congrArg Addr.block e).symm)]
  exact h

end Go.Proofs.YtolepfbhhmganaaDoor
