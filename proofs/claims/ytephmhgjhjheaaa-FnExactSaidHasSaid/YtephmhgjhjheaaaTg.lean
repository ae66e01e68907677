/- A new game: the program's and the model's. -/
import Derived.Test.YtephmhgjhjheaaaTf
namespace Go.Proofs.Ytephmhgjhjheaaa
open Go.ChangeShapes Go.WideShapes Go.ChangeAt Go.RowKit
set_option linter.unusedVariables false

def floorAt : Nat → List Int
  | 0 => List.replicate 16 0
  | k + 1 => (floorAt k).set (5 * k % 16) ((floorAt k).getD (5 * k % 16) 0 + 1)

theorem floorAt_length (k : Nat) : (floorAt k).length = 16 := by
  induction k with
  | zero => rfl
  | succ k ih => simp [floorAt, ih]

theorem floorAt_bd : ∀ k, k < 20 → 0 ≤ (floorAt k).getD (5 * k % 16) 0 ∧ (floorAt k).getD (5 * k % 16) 0 ≤ 20 := by decide

theorem make16 (w : World) : (Instr.makeSlice 30 (.int .i64 16) (.int .i64 16)).run Try.prog w = .ok (.slice (some ⟨w.heap.size, 0, none⟩) 16 16) (w.alloc (.cells (List.replicate 16 (.int .i64 0)).toArray 3)) := by kernel_rfl
theorem make4 (w : World) : (Instr.makeSlice 30 (.int .i64 4) (.int .i64 4)).run Try.prog w = .ok (.slice (some ⟨w.heap.size, 0, none⟩) 4 4) (w.alloc (.cells #[.int .i64 0, .int .i64 0, .int .i64 0, .int .i64 0] 3)) := by kernel_rfl

def zeros16 : Array Value := (List.replicate 16 (.int .i64 0)).toArray

/-- A game that is new: no figures, gold F on the floor. -/
def NewAt (w : World) (e : Ending) (w' : World) : Prop :=
  ∃ B b C c, e = .returned (gameV none 0 0 B 16 b C 4 c) ∧ GameAt w' w.heap.size w'.heap.size none 0 B b C c [] (floorAt 20) [0, 0, 0, 0] ∧ Below w.heap.size w w'

set_option maxRecDepth 100000 in
theorem gameNew (w : World) :
    Calls Try.prog 32 #[] w (NewAt w) := by
  have m16 : ∀ w : World, (Instr.makeSlice 30 (.int .i64 16) (.int .i64 16)).run Try.prog w = .ok (.slice (some ⟨w.heap.size, 0, none⟩) 16 16) (w.alloc (.cells zeros16 3)) := make16
  have m4 := make4
  go_enter Try.func32, Try.ntmps32
  go_wp2
  go_loopw [4] (fun i wr => ∃ k : Nat, k ≤ 20 ∧ i = .int .i64 k ∧ Hid (wr.ownsRow (w.heap.size + 1) 3 1 (.slice (some ⟨w.heap.size + 1, 0, none⟩) 16 16) 16 (ints (floorAt k))) ∧
    Hid (((w.alloc (.cells #[.slice none 0 0, .slice none 0 0, .slice none 0 0] 32)).alloc (.cells zeros16 3)).grownBy wr (some (w.heap.size + 1)))) (fun i _ => 20 - (intOf i).toNat)
  case atStart =>
    refine ⟨0, Nat.zero_le _, rfl, ?_, World.grownBy.refl _ _⟩
    have := World.ownsRow_lit (base := w.heap.size + 1) (e := 3) (size := 1) (w.alloc (.cells #[.slice none 0 0, .slice none 0 0, .slice none 0 0] 32)) zeros16 16 (by simp) (by unfold maxLen; omega) rfl
    simpa [Hid, zeros16, floorAt, ints] using this
  case round =>
    obtain ⟨k, hk, rfl, ho, hg⟩ := hrel
    by_cases hlt : k < 20
    · have hb := floorAt_bd k hlt
      have hc : wr.cell? ⟨w.heap.size + 1, 5 * k % 16, none⟩ = some (.int .i64 ((floorAt k).getD (5 * k % 16) 0)) := by
        rw [ho.out.cellAt _ (by omega), List.getElem?_map, List.getElem?_eq_getElem (by rw [floorAt_length]; omega)]
        simp [List.getD_eq_getElem?_getD, List.getElem?_eq_getElem (show 5 * k % 16 < (floorAt k).length by rw [floorAt_length]; omega)]
      have hf := ho.out.frozenAt (5 * k % 16)
      have hst := ho.out.stored (5 * k % 16) (.int .i64 ((floorAt k).getD (5 * k % 16) 0 + 1))
      rw [show (ints (floorAt k)).set (5 * k % 16) (.int .i64 ((floorAt k).getD (5 * k % 16) 0 + 1)) = ints (floorAt (k + 1)) from by rw [floorAt, ints, ints, List.map_set]] at hst
      have S1 := Lib.hid hst.1
      have S2 := Lib.hid (grownBy_trans hg.out hst.2)
      clear hst
      obtain ⟨v, hv⟩ : ∃ v, v = (floorAt k).getD (5 * k % 16) 0 := ⟨_, rfl⟩
      rw [← hv] at hc hb S1 S2
      have HV := Lib.hid hv
      clear hv
      obtain ⟨hb1, hb2⟩ := hb
      have i0 : (0 : Int) ≤ (k : Int) := by omega
      have i1 : (0 : Int) ≤ 5 * (k : Int) % 16 := by omega
      have i2 : 5 * (k : Int) % 16 < 16 := by omega
      go_wp2
      go_roundw
      case rel => exact ⟨k + 1, by omega, by go_num, S1.out, S2.out⟩
      case measure => simp [intOf]; omega
    · have hz : k = 20 := by omega
      subst hz
      have hlt0 : w.heap.size < ((w.alloc (.cells #[.slice none 0 0, .slice none 0 0, .slice none 0 0] 32)).alloc (.cells zeros16 3)).heap.size := by simp; omega
      have hsz : w.heap.size + 1 < wr.heap.size := by have := hg.out.size; simp at this; omega
      have hblk : wr.heap[w.heap.size]? = some (.cells #[.slice none 0 0, .slice none 0 0, .slice none 0 0] 32) := by
        rw [hg.out.block w.heap.size hlt0 (by simp), Below.heap_alloc _ _ _ (by simp)]
        exact heap_alloc_new w _
      have q0 : ∀ j, (wr.alloc (.cells #[.int .i64 0, .int .i64 0, .int .i64 0, .int .i64 0] 3)).cell? ⟨w.heap.size, j, none⟩ = (#[Value.slice none 0 0, Value.slice none 0 0, Value.slice none 0 0] : Array Value)[j]? := fun j => by
        rw [World.cell?_alloc_lt _ _ _ (by simp; omega)]
        exact cell_of_row wr w.heap.size j _ 32 (0, 0) hblk
      have qf : ∀ j, (wr.alloc (.cells #[.int .i64 0, .int .i64 0, .int .i64 0, .int .i64 0] 3)).frozen? ⟨w.heap.size, j, none⟩ = false := fun j => by
        rw [World.frozen?_alloc_old _ _ _ (by simp; omega)]
        exact frozen_of_row wr w.heap.size j _ 32 hblk
      have c0 := q0 0
      have c1 := q0 1
      have c2 := q0 2
      have f0 := qf 0
      have f1 := qf 1
      have f2 := qf 2
      simp at c0 c1 c2
      have HB := Lib.hid hblk
      clear q0 qf hlt0 hblk
      go_wp2
      go_light
      refine bodyPost_ret (v := gameV none 0 0 (some ⟨w.heap.size + 1, 0, none⟩) 16 16 (some ⟨wr.heap.size, 0, none⟩) 4 4) (by simp [results, Try.results32, go_sem, c0, c1, c2]) rfl ?_
      have hne : wr.heap.size ≠ w.heap.size := by omega
      have G := grownBy_set3 (wr.alloc (.cells #[.int .i64 0, .int .i64 0, .int .i64 0, .int .i64 0] 3)) w.heap.size (.slice none 0 0) (.slice (some ⟨w.heap.size + 1, 0, none⟩) 16 16) (.slice (some ⟨wr.heap.size, 0, none⟩) 4 4)
      have hown4 := World.ownsRow_lit (base := w.heap.size) (e := 3) (size := 1) wr #[.int .i64 0, .int .i64 0, .int .i64 0, .int .i64 0] 4 (by omega) (by unfold maxLen; omega) rfl
      refine ⟨some ⟨w.heap.size + 1, 0, none⟩, 16, some ⟨wr.heap.size, 0, none⟩, 4, rfl, ⟨World.ownsRow_nil _ _ _ _, ?_, ?_, ?_, ?_, ?_, ?_⟩, ?_⟩
      · exact (own_base (ho.out.alloc _) (by omega)).kept G (.inr (by simp [Value.ownBlock]))
      · exact hown4.kept G (.inr (by simp [Value.ownBlock]; omega))
      · intro g hg; simp [Value.ownBlock] at hg ⊢; omega
      · intro g hg; simp [Value.ownBlock] at hg
      · intro g hg; simp [Value.ownBlock] at hg; subst hg; have := G.size; simp at this ⊢; omega
      · intro g hg; simp [Value.ownBlock] at hg; subst hg; have := G.size; simp at this ⊢
      · refine Below.trans (((Below.refl _ _).alloc (Nat.le_refl _) _).alloc (by simp) _) (Below.trans (Below.of_grown hg.out (by simp; omega) (by rintro k hk; cases hk; omega)) ?_)
        exact ((Below.refl _ _).alloc (by omega) _).trans (Below.of_grown G (by simp; omega) (by rintro k hk; cases hk; omega))
end Go.Proofs.Ytephmhgjhjheaaa
