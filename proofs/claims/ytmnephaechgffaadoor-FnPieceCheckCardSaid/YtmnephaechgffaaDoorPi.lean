/- Pieces and texts: joined again, and in pieces again. Plain facts. -/
import Derived.Test.YtmnephaechgffaaDoorPf
import Derived.Lib.Split
namespace Go.Proofs.YtmnephaechgffaaDoor
open Go.ChangeShapes Go.WideShapes Go.ChangeAt Go.RowKit
set_option linter.unusedVariables false
set_option linter.unusedSimpArgs false

theorem bs_ext {a b : ByteArray} (h : a.data.toList = b.data.toList) : a = b := by
  apply ByteArray.ext
  exact Array.toList_inj.1 h
theorem cut_join (s : ByteArray) : (s.extract 0 12).data.toList ++ (s.extract 12 s.size).data.toList = s.data.toList := by
  rw [Lib.extract_from_zero, Lib.extract_to_end]
  exact List.take_append_drop 12 _
theorem pcsN_flat : ∀ (n : Nat) (s : ByteArray), ((pcsN n s).map (·.data.toList)).flatten = s.data.toList
  | 0, s => by simp [pcsN]
  | n + 1, s => by
    unfold pcsN
    split
    · rw [List.map_cons, List.flatten_cons, pcsN_flat n]
      exact cut_join s
    · simp
theorem pcs_join {s : ByteArray} (h : s.size ≤ 192) : joinL (pcs s) = s := by
  apply bs_ext
  rw [joinL_data]
  unfold pcs
  rw [if_neg (by omega)]
  exact pcsN_flat 16 s
/-- A list of pieces as PieceOf makes them. -/
theorem pcsN_wf : ∀ (n : Nat) (s : ByteArray), s.size ≤ 12 * (n + 1) → ∃ I x, pcsN n s = I ++ [x] ∧ I.length ≤ n ∧ (∀ y ∈ I, y.size = 12) ∧ x.size ≤ 12 ∧ (x.size = 0 → I = []) ∧ s.size = 12 * I.length + x.size
  | 0, s, h => ⟨[], s, rfl, Nat.le_refl _, by simp, by omega, fun _ => rfl, by simp⟩
  | n + 1, s, h => by
    unfold pcsN
    split
    · rename_i h1
      obtain ⟨I, x, h2, h3, h4, h5, h6, h7⟩ := pcsN_wf n (s.extract 12 s.size) (by rw [rest_size s h1]; omega)
      rw [rest_size s h1] at h7
      refine ⟨s.extract 0 12 :: I, x, by rw [h2]; rfl, by simp; omega, fun y hy => ?_, h5, fun hz => ?_, by simp only [List.length_cons]; omega⟩
      · rcases List.mem_cons.1 hy with rfl | hy
        · simp; omega
        · exact h4 y hy
      · exfalso
        have h8 := h6 hz
        subst h8
        simp at h7
        omega
    · rename_i h1
      exact ⟨[], s, rfl, Nat.zero_le _, by simp, by omega, fun _ => rfl, by simp⟩
theorem pcs_wf {s : ByteArray} (h : s.size ≤ 192) : wfB (pcs s) = true ∧ ((pcs s).length = 1 ∨ (pcs s).length = (s.size + 11) / 12) := by
  unfold pcs
  rw [if_neg (by omega)]
  obtain ⟨I, x, h2, h3, h4, h5, h6, h7⟩ := pcsN_wf 16 s (by omega)
  rw [h2, wfB_app]
  by_cases hx : x.size = 0
  · have hI := h6 hx
    subst hI
    refine ⟨by simp [wfI, hx], .inl rfl⟩
  · refine ⟨?_, .inr (by simp only [List.length_append, List.length_cons, List.length_nil]; omega)⟩
    unfold wfI
    rw [decide_eq_true (show I.length ≤ 15 by omega), decide_eq_true h5, List.all_eq_true.2 (fun y hy => by simp [h4 y hy])]
    simp [hx]
theorem pcsN_of : ∀ (n : Nat) (I : List ByteArray) (x s : ByteArray), I.length ≤ n → (∀ y ∈ I, y.size = 12) → x.size ≤ 12 → (x.size = 0 → I = []) → s.data.toList = ((I ++ [x]).map (·.data.toList)).flatten → pcsN n s = I ++ [x]
  | n, [], x, s, hn, hI, hx, hz, hs => by
    have e : s = x := bs_ext (by simpa using hs)
    subst e
    rcases n with _ | n
    · rfl
    · show (if 12 < s.size then _ else _) = _
      rw [if_neg (by omega)]
      rfl
  | 0, y :: I, x, s, hn, hI, hx, hz, hs => by simp at hn
  | n + 1, y :: I, x, s, hn, hI, hx, hz, hs => by
    have hy := hI y (List.Mem.head _)
    have hyl : y.data.toList.length = 12 := by simpa using hy
    have hx0 : x.size ≠ 0 := fun h => by cases hz h
    have hs2 : s.data.toList = y.data.toList ++ ((I ++ [x]).map (·.data.toList)).flatten := by simpa using hs
    have hpos : 0 < (((I ++ [x]).map (·.data.toList)).flatten).length := by
      have hxl : x.data.toList.length = x.size := by simp
      simp only [List.map_append, List.flatten_append, List.length_append, List.map_cons, List.map_nil, List.flatten_cons, List.flatten_nil, List.length_nil]
      omega
    have hsz : 12 < s.size := by
      have : s.data.toList.length = s.size := by simp
      rw [hs2, List.length_append, hyl] at this
      omega
    have hsl : s.data.toList.length = s.size := by simp
    show (if 12 < s.size then s.extract 0 12 :: pcsN n (s.extract 12 s.size) else _) = _
    rw [if_pos hsz]
    have e1 : s.extract 0 12 = y := bs_ext (by rw [Lib.extract_from_zero, hs2, List.take_append_of_le_length (by omega), List.take_of_length_le (by omega)])
    have e2 : pcsN n (s.extract 12 s.size) = I ++ [x] := by
      refine pcsN_of n I x _ (by simp at hn; omega) (fun z hz2 => hI z (List.mem_cons_of_mem _ hz2)) hx (fun h => absurd h hx0) ?_
      rw [Lib.extract_to_end, hs2, List.drop_append_of_le_length (by omega), List.drop_of_length_le (by omega), List.nil_append]
    rw [e1, e2]
    rfl
theorem pcs_of {D : List ByteArray} (h : wfB D = true) : pcs (joinL D) = D := by
  obtain ⟨h1, h2, h3⟩ := wfB_small h
  rcases split_last D with rfl | ⟨I, x, rfl⟩
  · cases h
  rw [wfB_app] at h
  unfold wfI at h
  simp only [Bool.and_eq_true, decide_eq_true_iff, List.all_eq_true, beq_iff_eq] at h
  have hl := joinL_len (I ++ [x]) 12 h3
  unfold pcs
  rw [if_neg (by omega)]
  refine pcsN_of 16 I x _ (by omega) h.2.1 h.2.2.1 (fun hz => ?_) (joinL_data _)
  have h4 := h.2.2.2
  rw [hz] at h4
  simpa using h4

end Go.Proofs.YtmnephaechgffaaDoor
