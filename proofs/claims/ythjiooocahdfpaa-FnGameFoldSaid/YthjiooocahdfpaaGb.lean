/- A figure's place: the program's search. -/
import Derived.Test.YthjiooocahdfpaaGa
namespace Go.Proofs.Ythjiooocahdfpaa
open Go.ChangeShapes Go.WideShapes Go.ChangeAt Go.RowKit
set_option linter.unusedVariables false
set_option linter.unusedSimpArgs false

theorem cmpEnt (f : Fig) (c : Int) (w : World) :
    Calls Try.prog 90 #[f.val, .int .i64 c] w fun e w' => e = .returned (.int .i64 (cmpI f.c c)) ∧ Below w.heap.size w w' := by
  obtain ⟨a, x, y, l, g⟩ := f
  unfold Fig.val
  have BB : Hid (Below w.heap.size w (w.alloc (.cells #[.int .i64 a, .int .i64 x, .int .i64 y, .int .i64 l, .int .i64 g] 74))) := (Below.refl _ _).alloc (Nat.le_refl _) _
  go_enter Try.func90, Try.ntmps90
  go_wp2_with (fail)
  refine (compare _ _ _).mono ?_
  rintro e w' ⟨rfl, rfl⟩
  go_wp2
  go_ret
  exact ⟨rfl, BB.out⟩
theorem cmp_lt (a b : Int) : decide (cmpI a b < 0) = decide (a < b) := by
  unfold cmpI
  by_cases h1 : a < b
  · simp [h1]
  · by_cases h2 : b < a <;> simp [h1, h2]
theorem cmp_eq (a b : Int) : (cmpI a b == 0) = decide (a = b) := by
  unfold cmpI
  by_cases h1 : a < b
  · have : a ≠ b := by omega
    simp [h1, this]
  · by_cases h2 : b < a
    · have : a ≠ b := by omega
      simp [h1, h2, this]
    · have : a = b := by omega
      simp [h1, h2, this]
theorem at_of {E : List Fig} {c : Int} {i : Nat} (hE : OkE E) (h1 : ∀ q (hq : q < E.length), q < i → (E[q]'hq).c < c) (h2 : ∀ q (hq : q < E.length), i ≤ q → c ≤ (E[q]'hq).c) : (atF c E).isSome = decide (∃ h : i < E.length, (E[i]'h).c = c) := by
  rcases ha : atF c E with _ | k
  · symm
    refine decide_eq_false fun ⟨h, he⟩ => atF_none ha i h he
  · obtain ⟨hk, hc, _⟩ := atF_some ha
    symm
    refine decide_eq_true ?_
    rcases Nat.lt_or_ge k i with h3 | h3
    · have := h1 k hk h3; omega
    · have hi : i < E.length := by omega
      refine ⟨hi, ?_⟩
      have h4 := h2 i hi (Nat.le_refl _)
      rcases Nat.lt_or_ge i k with h5 | h5
      · have := hE.asc i k hi hk h5; omega
      · obtain rfl : i = k := by omega
        exact hc
theorem half (i j : Nat) (h : i < j) (hj : j ≤ 4) : i ≤ (i + j) / 2 ∧ (i + j) / 2 < j := by omega

set_option maxRecDepth 100000 in
set_option maxHeartbeats 4000000 in
theorem bsearch (A : Option Addr) (a : Nat) (E : List Fig) (c : Int) (w : World) (hE : OkE E) (rE : RdF w A E) :
    Calls Try.prog 89 #[.slice A E.length a, .int .i64 c, .func (.func 90) #[] #[]] w fun e w' => e = .returned (.tuple #[.int .i64 (ltF c E), .bool (atF c E).isSome]) ∧ Below w.heap.size w w' := by
  have HE := Lib.hid rE
  have HO := Lib.hid hE
  have hl4 : E.length ≤ 4 := hE.len
  have hE' := hE
  clear rE hE
  go_enter Try.func89, Try.ntmps89
  go_wp2
  go_loopw [9, 10] (fun lo hi wr => ∃ i j : Nat, i ≤ j ∧ j ≤ E.length ∧ lo = .int .i64 i ∧ hi = .int .i64 j ∧ Hid (∀ q (hq : q < E.length), q < i → (E[q]'hq).c < c) ∧ Hid (∀ q (hq : q < E.length), j ≤ q → c ≤ (E[q]'hq).c) ∧ Hid (Below w.heap.size w wr)) (fun lo hi _ => (intOf hi).toNat - (intOf lo).toNat)
  case atStart => exact ⟨0, E.length, Nat.zero_le _, Nat.le_refl _, rfl, rfl, fun q hq h => by omega, fun q hq h => by omega, Below.refl _ _⟩
  case round =>
    obtain ⟨i, j, hij, hj, rfl, rfl, hlo, hhi, hb⟩ := hrel
    by_cases hlt : i < j
    · have hh := half i j hlt (by omega)
      obtain ⟨m, hm⟩ : ∃ m, (i + j) / 2 = m := ⟨_, rfl⟩
      obtain ⟨g, rfl, a0, a1, a2, a3, a4⟩ := RdF.below HE.out hb.out m (by omega)
      have n0 : (i : Int) < (j : Int) := by omega
      have i0 : (0 : Int) ≤ (m : Int) := by omega
      have i1 : (m : Int) < (E.length : Int) := by omega
      have HM := Lib.hid hm
      go_wp2_with (fail)
      refine (cmpEnt (E[m]'(by omega)) c _).mono ?_
      rintro e w1 ⟨rfl, h1⟩
      have BB := Lib.hid (Below.and hb.out h1)
      clear h1 a0 a1 a2 a3 a4
      by_cases hc : (E[m]'(by omega)).c < c
      · rw [show cmpI (E[m]'(by omega)).c c = -1 by unfold cmpI; rw [if_pos hc]]
        have HC := Lib.hid hc
        clear hc
        go_wp2
        go_roundw
        case rel =>
          refine ⟨m + 1, j, by omega, by omega, ?_, rfl, fun q hq hqm => ?_, hhi.out, BB.out⟩
          · congr 1; have := HM.out; omega
          · rcases Nat.lt_or_ge q m with h1 | h1
            · exact Int.lt_trans (HO.out.asc q m hq (by omega) h1) HC.out
            · obtain rfl : q = m := by omega
              exact HC.out
        case measure => have := HM.out; simp [intOf]; omega
      · have hv : ∃ v : Int, cmpI (E[m]'(by omega)).c c = v ∧ ¬ v < 0 := by
          refine ⟨_, rfl, ?_⟩
          unfold cmpI
          rw [if_neg hc]
          split <;> omega
        obtain ⟨v, hv, hv0⟩ := hv
        rw [hv]
        have HC := Lib.hid hc
        clear hc hv
        go_wp2
        go_roundw
        case rel =>
          refine ⟨i, m, by omega, by omega, rfl, ?_, hlo.out, fun q hq hqm => ?_, BB.out⟩
          · congr 1; have := HM.out; omega
          · have h2 : ¬ (E[m]'(by omega)).c < c := by have := HC.out; omega
            rcases Nat.lt_or_ge m q with h1 | h1
            · have := HO.out.asc m q (by omega) hq h1; omega
            · obtain rfl : q = m := by omega
              omega
        case measure => have := HM.out; simp [intOf]; omega
    · obtain rfl : i = j := by omega
      have HL : Hid (ltF c E = i) := ltF_of c E i hj (fun q hq h => hlo.out q hq h) (fun hk h => by have := hhi.out i hk (Nat.le_refl _); omega)
      have HI := Lib.hid (at_of hE' hlo.out hhi.out)
      by_cases hi : i < E.length
      · obtain ⟨g, rfl, a0, a1, a2, a3, a4⟩ := RdF.below HE.out hb.out i hi
        have n1 : (i : Int) < (E.length : Int) := by omega
        have i0 : (0 : Int) ≤ (i : Int) := by omega
        go_wp2_with (fail)
        refine (cmpEnt (E[i]'hi) c _).mono ?_
        rintro e w1 ⟨rfl, h1⟩
        have BB := Lib.hid (Below.and hb.out h1)
        clear h1 a0 a1 a2 a3 a4
        by_cases hc : (E[i]'hi).c = c
        · rw [show cmpI (E[i]'hi).c c = 0 by unfold cmpI; rw [if_neg (by omega), if_neg (by omega)]]
          have HS : Hid ((atF c E).isSome = true) := by rw [Hid, HI.out]; exact decide_eq_true ⟨hi, hc⟩
          clear hc
          go_wp2
          go_light
          refine bodyPost_ret (v := .tuple #[.int .i64 i, .bool true]) (by simp [results, Try.results89, go_sem]) rfl ⟨by rw [HL.out, HS.out], BB.out⟩
        · have HS : Hid ((atF c E).isSome = false) := by rw [Hid, HI.out]; exact decide_eq_false (fun h => hc h.2)
          have hv : ∃ v : Int, cmpI (E[i]'hi).c c = v ∧ (v == 0) = false := ⟨_, rfl, by rw [cmp_eq]; exact decide_eq_false hc⟩
          obtain ⟨v, hv, hv0⟩ := hv
          rw [hv]
          clear hc hv
          go_wp2
          go_light
          refine bodyPost_ret (v := .tuple #[.int .i64 i, .bool false]) (by simp [results, Try.results89, go_sem]) rfl ⟨by rw [HL.out, HS.out], BB.out⟩
      · have n1 : ¬ (i : Int) < (E.length : Int) := by omega
        have HS : Hid ((atF c E).isSome = false) := by rw [Hid, HI.out]; exact decide_eq_false (fun h => hi h.1)
        go_wp2
        go_light
        refine bodyPost_ret (v := .tuple #[.int .i64 i, .bool false]) (by simp [results, Try.results89, go_sem]) rfl ⟨by rw [HL.out, HS.out], hb.out⟩

theorem placeOf (A : Option Addr) (a : Nat) (E : List Fig) (c : Int) (w : World) (hE : OkE E) (rE : RdF w A E) :
    Calls Try.prog 82 #[.slice A E.length a, .int .i64 c] w fun e w' => e = .returned (.tuple #[.int .i64 (ltF c E), .bool (atF c E).isSome]) ∧ Below w.heap.size w w' := by
  have HE := Lib.hid rE
  have HO := Lib.hid hE
  clear rE hE
  go_enter Try.func82, Try.ntmps82
  go_wp2_with (fail)
  refine (bsearch A a E c _ HO.out HE.out).mono ?_
  rintro e w1 ⟨rfl, hb⟩
  have BB := Lib.hid hb
  clear hb
  go_wp2
  go_light
  refine bodyPost_ret (v := .tuple #[.int .i64 (ltF c E), .bool (atF c E).isSome]) (by simp [results, Try.results82, go_sem]) rfl ⟨rfl, BB.out⟩

end Go.Proofs.Ythjiooocahdfpaa
