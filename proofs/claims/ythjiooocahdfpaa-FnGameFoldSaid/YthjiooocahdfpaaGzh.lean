/- What slices.Insert leans on: an own row grown into its room, or into a new block; copy of elements of many cells. -/
import Derived.Test.YthjiooocahdfpaaGzg
import Derived.Lib.AppendZerosOnto
import Derived.Lib.Overlaps
namespace Go.Proofs.Ythjiooocahdfpaa
open Go.ChangeShapes Go.WideShapes Go.ChangeAt Go.RowKit
set_option linter.unusedVariables false
set_option linter.unusedSimpArgs false

/-- An own row made longer into its room ('x[:n+1]'): what lies behind it is some cells. -/
theorem own_room {w : World} {base : Nat} {e : TypeId} {size g c n : Nat} {xs : List Value} (h : w.ownsRow base e size (.slice (some ⟨g, 0, none⟩) n c) n xs) (m : Nat) (hm : n ≤ m) (hc : m ≤ c) :
    ∃ Z : List Value, Z.length = (m - n) * size ∧ w.ownsRow base e size (.slice (some ⟨g, 0, none⟩) m c) m (xs ++ Z) := by
  rcases h.2 with ⟨h1, _⟩ | ⟨g', cap, cur, h1, h2, h3, h4, h5, h6, h7⟩
  · cases h1
  · simp only [Value.slice.injEq] at h1
    obtain ⟨h8, _, h9⟩ := h1
    cases h8
    subst h9
    have hl := h.1
    have hml : m * size ≤ c * size := Nat.mul_le_mul_right _ hc
    have hnm : n * size ≤ m * size := Nat.mul_le_mul_right _ hm
    have hx : (cur.toList.take (m * size)).take (n * size) = xs := by rw [List.take_take, Nat.min_eq_left hnm]; exact h7
    have hL : (cur.toList.take (m * size)).length = m * size := by rw [List.length_take, Array.length_toList, h6]; omega
    refine ⟨(cur.toList.take (m * size)).drop (n * size), by rw [List.length_drop, hL, Nat.sub_mul], ?_⟩
    have he : xs ++ (cur.toList.take (m * size)).drop (n * size) = cur.toList.take (m * size) := by rw [← hx, List.take_append_drop]
    rw [he]
    exact ⟨hL, .inr ⟨g, c, cur, rfl, h2, h3, hc, h5, h6, rfl⟩⟩

/-- What append gives for a slice without room and a number of zero values, as an own row. -/
theorem own_zeros (w : World) (e : TypeId) (size : Nat) (olds : List Value) (z : Array Value) (n k c : Nat) (hz : z.size = size) (ho : olds.length = n * size) (hc : n + k ≤ c) (hm : c ≤ maxLen) :
    ∃ Z : List Value, Z.length = k * size ∧ (w.drew.alloc (.cells (olds.toArray ++ Builtin.zeroCells z k ++ Builtin.zeroCells z (c - (n + k))) e)).ownsRow w.heap.size e size (.slice (some ⟨w.heap.size, 0, none⟩) (n + k) c) (n + k) (olds ++ Z) ∧
      w.grownBy (w.drew.alloc (.cells (olds.toArray ++ Builtin.zeroCells z k ++ Builtin.zeroCells z (c - (n + k))) e)) none := by
  refine ⟨(Builtin.zeroCells z k).toList, by simp [size_zeroCells, hz], ⟨?_, .inr ⟨w.heap.size, c, _, rfl, Nat.le_refl _, heap_alloc_new w.drew _, hc, hm, ?_, ?_⟩⟩, ⟨rfl, rfl, rfl, by simp, fun k hk _ => heap_alloc_old w.drew _ hk⟩⟩
  · simp [size_zeroCells, hz, ho, Nat.add_mul]
  · simp only [Array.size_append, List.size_toArray, size_zeroCells, hz, ho, ← Nat.add_mul]
    congr 1
    omega
  · have hl : (olds ++ (Builtin.zeroCells z k).toList).length = (n + k) * size := by simp [size_zeroCells, hz, ho, Nat.add_mul]
    simp only [Array.toList_append]
    rw [← hl]
    exact List.take_left

/-- copy of elements of many cells: all is read before anything is written. -/
theorem run_copy_wide {P : Program} (w : World) (dT sT ty elem : TypeId) (i : TypeInfo) (size : Nat) (b o dLen dCap : Nat) (a : Addr) (sLen sCap : Nat) (cs : List Value)
    (hu : P.underlying dT = some (.slice elem)) (hi : P.info? elem = some i) (hs : i.size = size) (hn : cs.length = Nat.min sLen dLen * size)
    (hsrc : ∀ j v, cs[j]? = some v → w.cell? (a.add j) = some v) (hc : ∀ j, j < cs.length → (w.cell? ⟨b, o + j, none⟩).isSome = true) (hf : ∀ j, j < cs.length → w.frozen? ⟨b, o + j, none⟩ = false) (h1 : ∀ v ∈ cs, v.oneCell' = true) :
    (Builtin.copy_ #[dT, sT] ty #[.slice (some ⟨b, o, none⟩) dLen dCap, .slice (some a) sLen sCap]).run P w = .ok (goInt (Nat.min sLen dLen : Nat)) (w.setCells b o cs) := by
  subst hs
  have hl := run_firstCells_some (P := P) w i.size (Nat.min sLen dLen) a sLen sCap cs hn hsrc
  have hst := run_storeCells_cells (P := P) b o cs 0 w (by simpa using hc) (by simpa using hf) h1
  simp only [Nat.add_zero] at hst
  simp [Builtin.copy_, run_underlying hu, Builtin.lenOf, sizeOf, typeInfo, hi, hl, hst]

/-- The list that Insert leaves: the new element first, then what is pushed on. -/
theorem ins_new (X e D : List Value) (i n : Nat) (hX : X.length = (n + 1) * 5) (he : e.length = 5) (hD : D.length = (n - i) * 5) (hi : i ≤ n) :
    setsL (setsL X (i * 5) e) ((i + 1) * 5) D = X.take (i * 5) ++ e ++ D := by
  have hA : (setsL X (i * 5) e).length = (n + 1) * 5 := by rw [setsL_len, hX]
  rw [setsL_eq D _ _ (by rw [hA, hD]; omega), List.drop_of_length_le (by rw [hA, hD]; omega), List.append_nil, setsL_eq e X _ (by rw [hX, he]; omega)]
  rw [List.take_append_of_le_length (by rw [List.length_append, List.length_take, he, hX]; omega), List.take_of_length_le (by rw [List.length_append, List.length_take, he, hX]; omega)]
/-- The list that Insert leaves: what is pushed on first, then the new element. -/
theorem ins_room (X e D : List Value) (i n : Nat) (hX : X.length = (n + 1) * 5) (he : e.length = 5) (hD : D.length = (n - i) * 5) (hi : i ≤ n) :
    setsL (setsL X ((i + 1) * 5) D) (i * 5) e = X.take (i * 5) ++ e ++ D := by
  have hA : (setsL X ((i + 1) * 5) D).length = (n + 1) * 5 := by rw [setsL_len, hX]
  rw [setsL_eq e _ _ (by rw [hA, he]; omega), setsL_eq D X _ (by rw [hX, hD]; omega)]
  rw [List.drop_of_length_le (l := X) (by rw [hX, hD]; omega), List.append_nil, he]
  congr 1
  · congr 1
    rw [List.take_append_of_le_length (by rw [List.length_take, hX]; omega), List.take_take, Nat.min_eq_left (by omega)]
  · rw [show i * 5 + 5 = (X.take ((i + 1) * 5)).length by rw [List.length_take, hX]; omega]
    exact List.drop_left
theorem figs_ins (E : List Fig) (i : Nat) (e : Fig) : figs (E.take i ++ e :: E.drop i) = (figs E).take (i * 5) ++ e.cells ++ (figs E).drop (i * 5) := by
  have h1 : (figs E).take (i * 5) = (E.take i).flatMap Fig.cells := rows_take Fig.cells 5 Fig.len E i
  have h2 : (figs E).drop (i * 5) = (E.drop i).flatMap Fig.cells := rows_drop Fig.cells 5 Fig.len E i
  rw [h1, h2]
  simp [figs]

end Go.Proofs.Ythjiooocahdfpaa
