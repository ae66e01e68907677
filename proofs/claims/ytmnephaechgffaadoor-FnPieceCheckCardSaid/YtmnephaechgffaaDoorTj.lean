/- What came in, made the program's own. -/
import Derived.Test.YtmnephaechgffaaDoorZT
import Derived.Test.YtmnephaechgffaaDoorMem2
namespace Go.Proofs.YtmnephaechgffaaDoor
open Go.ChangeShapes Go.WideShapes Go.ChangeAt Go.RowKit
set_option linter.unusedVariables false

theorem info3 : (Tryd.prog.info? 3).map (fun i => (i.zero, i.size, i.bytes)) = some (some (.int .i64 0), 1, 8) := by kernel_rfl
set_option maxRecDepth 100000 in
theorem toIntS (A : Option Addr) (c : Nat) (l : List Int) (w : World) (hl : l.length ≤ 1048576) (h : InI w A l) :
    Calls Tryd.prog 12 #[.slice A l.length c] w fun e w' => ∃ g, e = .returned (.slice (some ⟨g, 0, none⟩) l.length l.length) ∧ g = w.heap.size ∧ w'.ownsRow w.heap.size 3 1 (.slice (some ⟨g, 0, none⟩) l.length l.length) l.length (ints l) ∧ Below w.heap.size w w' := by
  obtain ⟨i0, hi, hz0, hz1, hz2⟩ := info_parts info3
  obtain ⟨w1, hmk, hown, hg1⟩ := run_make_full (P := Tryd.prog) w w.heap.size 22 3 i0 (.int .i64 0) 1 Tryd.underlying22 hi hz0 hz1 .i64 .i64 l.length (by rw [hz2]; omega) (by unfold maxLen; omega) (Nat.le_refl _)
  have B1 := Below.of_none hg1
  have hx : l.length = ((madeCells (Value.int .i64 0).cells (l.length * 1)).toList).length := by have := hown.1; omega
  generalize (madeCells (Value.int .i64 0).cells (l.length * 1)).toList = xs at hown hx
  have HI := Lib.hid h
  have HX := Lib.hid hx
  have HO := Lib.hid hown
  have HB := Lib.hid B1
  clear h hx hown hg1 B1 hi hz0 hz1 hz2
  go_enter Tryd.func12, Tryd.ntmps12
  go_wp2
  go_loopw [4] (fun i wr => ∃ j : Nat, j ≤ l.length ∧ i = .int .i64 j ∧ Hid (wr.ownsRow w.heap.size 3 1 (.slice (some ⟨w.heap.size, 0, none⟩) l.length l.length) l.length (ints (l.take j) ++ xs.drop j)) ∧ Hid (w1.grownBy wr (some w.heap.size))) (fun i _ => l.length - (intOf i).toNat)
  case atStart => exact ⟨0, Nat.zero_le _, rfl, by simpa [Hid, ints] using HO.out, World.grownBy.refl _ _⟩
  case round =>
    obtain ⟨j, hj, rfl, ho, hg⟩ := hrel
    by_cases hlt : j < l.length
    · obtain ⟨b, off, rfl, hc⟩ := HI.out j hlt
      have hblt := World.block_lt_of_cell? w _ hc
      have hc1 : wr.cell? ⟨b, off + j, none⟩ = some (.int .i64 l[j]) := hg.out.cell (cell_kept HB.out hc) (by simp at hblt ⊢; omega)
      have hst := ho.out.stored j (.int .i64 l[j])
      rw [set_next l xs j hlt HX.out] at hst
      have S1 := Lib.hid hst.1
      have S2 := Lib.hid (grownBy_trans hg.out hst.2)
      have hf := ho.out.frozenAt j
      obtain ⟨u, hu⟩ : ∃ u, wr.cell? ⟨w.heap.size, j, none⟩ = some u := ⟨_, (ho.out.cellAt j (by omega)).trans (List.getElem?_eq_getElem (by have := HX.out; simp; omega))⟩
      clear hst hc hblt
      generalize l[j] = v at hc1 S1 S2
      have i0 : (0 : Int) ≤ (j : Int) := by omega
      have i1 : (j : Int) < (l.length : Int) := by omega
      go_wp2
      go_roundw
      case rel => exact ⟨j + 1, by omega, by go_num, S1.out, S2.out⟩
      case measure => simp [intOf]; omega
    · have hz : j = l.length := by omega
      have HZ := Lib.hid hz
      clear hz
      go_wp2
      go_ret
      have := ho.out
      rw [HZ.out, List.take_length, List.drop_of_length_le (by have := HX.out; omega), List.append_nil] at this
      exact ⟨_, rfl, rfl, this, Below.trans HB.out (Below.of_grown hg.out HB.out.size (by rintro k hk; cases hk; omega))⟩

end Go.Proofs.YtmnephaechgffaaDoor
