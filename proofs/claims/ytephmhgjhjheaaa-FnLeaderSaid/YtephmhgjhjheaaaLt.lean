/- A view drawn; each leads in turn. -/
import Derived.Test.YtephmhgjhjheaaaLd
import Derived.Test.YtephmhgjhjheaaaTt
import Derived.Deep.RegionWith
namespace Go.Proofs.Ytephmhgjhjheaaa
open Go.ChangeShapes Go.WideShapes Go.ChangeAt Go.RowKit
set_option linter.unusedVariables false

theorem cells_of_ints {w : World} {g : Nat} {t : TypeId} (l : List Int) (h : w.heap[g]? = some (.cells (l.map (Value.int .i64)).toArray t)) : ∀ i (hi : i < l.length), w.cell? ⟨g, i, none⟩ = some (.int .i64 (l[i]'hi)) := by
  intro i hi
  rw [cell_of_row w g i _ t (0, 0) h]
  simp [hi]

theorem drawLeader {w : World} {A : Option Addr} {n c : Nat} (hn : n ≤ 1048576) (hc : n ≤ c) (hb : InB w A n) :
    Calls Try.prog 34 #[.slice A n c] w fun e w' => ∃ v : Int, e = .returned (.int .i64 v) ∧ Below w.heap.size w w' := by
  have HB := Lib.hid hb
  clear hb
  go_enter Try.func34, Try.ntmps34
  go_wp2_with (fail)
  refine (l20Open hn hc HB.out).mono ?_
  rintro e w1 ⟨m, rfl, hr, hbl⟩
  have hlt := hr.lt
  have RD := Lib.hid (hr.below ((Below.refl w1.heap.size w1).alloc (Nat.le_refl _) (.cells #[.int .i64 0, .int .i64 1, .int .i64 2, .int .i64 3, .int .i64 4, .int .i64 5, .int .i64 6, .int .i64 7, .int .i64 (-1)] 3)))
  have BL := Lib.hid (hbl.alloc hbl.size (.cells #[.int .i64 0, .int .i64 1, .int .i64 2, .int .i64 3, .int .i64 4, .int .i64 5, .int .i64 6, .int .i64 7, .int .i64 (-1)] 3))
  have HC := Lib.hid (cells_of_ints [0, 1, 2, 3, 4, 5, 6, 7, -1] (heap_alloc_new w1 (.cells #[.int .i64 0, .int .i64 1, .int .i64 2, .int .i64 3, .int .i64 4, .int .i64 5, .int .i64 6, .int .i64 7, .int .i64 (-1)] 3)))
  clear hr hbl
  go_wp2_with (fail)
  refine (oneR w1.heap.size [0, 1, 2, 3, 4, 5, 6, 7, -1] RD.out (by omega) (by simp) (by simp) (by omega) HC.out).mono ?_
  rintro e w2 ⟨v, rfl, q, q0, q1, hr, hgr⟩
  have BL2 := Lib.hid (BL.out.grown hgr (by simp; omega) (by simp))
  clear hr hgr
  go_wp2
  go_ret
  exact ⟨v, rfl, BL2.out⟩

theorem lead_next {v k : Int} (h : ¬ leadI v < 0) (h1 : 1 ≤ k) (h2 : k < 4) : (leadI (v + k) == leadI v) = false := by
  have hv : inB v 0 6 = true := by
    rcases e : inB v 0 6 with _ | _
    · rw [leadI, e] at h; simp at h
    · rfl
  rw [show leadI v = v % 4 from by rw [leadI, if_pos hv]]
  simp only [inB, Bool.and_eq_true, decide_eq_true_eq] at hv
  rw [leadI]
  simp only [beq_eq_false_iff_ne, ne_eq]
  split
  · omega
  · omega

theorem lead_bd {v : Int} (h : ¬ leadI v < 0) : 0 ≤ v ∧ v ≤ 6 ∧ leadI v = v % 4 := by
  rcases e : inB v 0 6 with _ | _
  · rw [leadI, e] at h; simp at h
  · have := e
    simp only [inB, Bool.and_eq_true, decide_eq_true_eq] at this
    exact ⟨this.1, this.2, by rw [leadI, if_pos e]⟩

set_option maxRecDepth 100000 in
theorem lawLeader {w : World} {A : Option Addr} {n c : Nat} (hm : n ≤ maxLen) (hc : n ≤ c) (hb : InB w A n) :
    Calls Try.prog 7 #[.slice A n c] w fun e w' => e = .returned (.bool true) ∧ Below w.heap.size w w' := by
  unfold maxLen at hm
  have HB := Lib.hid hb
  clear hb
  go_enter Try.func7, Try.ntmps7
  by_cases hn : 1048576 < n
  · have e0 : (decide ((1048576 : Int) < (n : Int))) = true := by simp; omega
    go_wp2
    go_light
    go_ret
    exact ⟨rfl, Below.refl _ _⟩
  have e0 : (decide ((1048576 : Int) < (n : Int))) = false := by simp; omega
  go_wp2_with (fail)
  refine (drawLeader (by omega) hc HB.out).mono ?_
  rintro e w1 ⟨v, rfl, hbl⟩
  have BL := Lib.hid hbl
  clear hbl
  go_wp2_with (first | (go_at_call 35; refine (implLeader _ _).mono ?_; rintro e w' ⟨rfl, rfl⟩) | (go_at_call 36; refine (specLeader _ _).mono ?_; rintro e w' ⟨rfl, rfl⟩))
  · go_ret
    exact ⟨rfl, BL.out⟩
  have hv : ¬ leadI v < 0 := by omega
  obtain ⟨b0, b1, b2⟩ := lead_bd hv
  have b3 : leadI v < 4 := by omega
  have HN := Lib.hid (fun k (h1 : 1 ≤ k) (h2 : k < 4) => lead_next (k := k) hv h1 h2)
  have B2 := Lib.hid b2
  clear b2 hv
  go_loop [5] (fun k => ∃ j : Nat, 1 ≤ j ∧ j ≤ 4 ∧ k = .int .i64 j) (fun k => 4 - (intOf k).toNat)
  case atStart => exact ⟨1, by omega, by omega, rfl⟩
  case round =>
    obtain ⟨j, h1, h4, rfl⟩ := hrel
    by_cases hlt : j < 4
    · have hne := HN.out j (by omega) (by omega)
      go_wp2_with (go_at_call 35; refine (implLeader _ _).mono ?_; rintro e w' ⟨rfl, rfl⟩)
      go_round
      case rel => exact ⟨j + 1, by omega, by omega, by go_num⟩
      case measure => simp [intOf]; omega
    · have d1 : decide (leadI v < 4) = true := by simpa using b3
      by_cases h6 : 6 < v + 4
      · have d2 : decide (6 < v + 4) = true := by simpa using h6
        go_wp2
        go_light
        go_ret
        exact ⟨rfl, BL.out⟩
      · have d2 : decide (6 < v + 4) = false := by simp; omega
        have d3 : (leadI (v + 4) == leadI v) = true := by
          rw [B2.out, leadI, if_pos (by simp [inB]; omega)]
          simp
        go_wp2_with (go_at_call 35; refine (implLeader _ _).mono ?_; rintro e w' ⟨rfl, rfl⟩)
        go_light
        go_ret
        exact ⟨rfl, BL.out⟩
end Go.Proofs.Ytephmhgjhjheaaa
