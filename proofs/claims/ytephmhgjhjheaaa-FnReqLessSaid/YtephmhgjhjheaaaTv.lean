/- Asks are in order: the law's walk. -/
import Derived.Test.YtephmhgjhjheaaaTu
import Derived.Test.YtephmhgjhjheaaaBy
import Derived.Test.YtephmhgjhjheaaaEq
namespace Go.Proofs.Ytephmhgjhjheaaa
open Go.ChangeShapes Go.WideShapes Go.ChangeAt Go.RowKit
set_option linter.unusedVariables false

theorem InB.below {w w' : World} {A : Option Addr} {n : Nat} (h : InB w A n) (hb : Below w.heap.size w w') : InB w' A n := fun i hi => by
  obtain ⟨b, off, u, h1, h2, h3⟩ := h i hi
  exact ⟨b, off, u, h1, cell_kept hb h2, h3⟩

theorem less_tri (a1 a2 a3 a4 a5 b1 b2 b3 b4 b5 : Int) :
    (lessB a1 a2 a3 a4 a5 b1 b2 b3 b4 b5 = false ∧ lessB b1 b2 b3 b4 b5 a1 a2 a3 a4 a5 = false ∧ decide ((⟨a1, a2, a3, a4, a5⟩ : Rq) = ⟨b1, b2, b3, b4, b5⟩) = true) ∨ (lessB a1 a2 a3 a4 a5 b1 b2 b3 b4 b5 = false ∧ lessB b1 b2 b3 b4 b5 a1 a2 a3 a4 a5 = true ∧ decide ((⟨a1, a2, a3, a4, a5⟩ : Rq) = ⟨b1, b2, b3, b4, b5⟩) = false) ∨
    (lessB a1 a2 a3 a4 a5 b1 b2 b3 b4 b5 = true ∧ lessB b1 b2 b3 b4 b5 a1 a2 a3 a4 a5 = false ∧ decide ((⟨a1, a2, a3, a4, a5⟩ : Rq) = ⟨b1, b2, b3, b4, b5⟩) = false) := by
  unfold lessB
  simp only [Rq.mk.injEq, decide_eq_true_eq, decide_eq_false_iff_not]
  repeat' split
  all_goals (simp only [decide_eq_true_eq, decide_eq_false_iff_not])
  all_goals omega

theorem less_trans {a1 a2 a3 a4 a5 b1 b2 b3 b4 b5 c1 c2 c3 c4 c5 : Int} (h1 : lessB a1 a2 a3 a4 a5 b1 b2 b3 b4 b5 = true) (h2 : lessB b1 b2 b3 b4 b5 c1 c2 c3 c4 c5 = true) : lessB a1 a2 a3 a4 a5 c1 c2 c3 c4 c5 = true := by
  unfold lessB at *
  repeat' split at h1
  all_goals repeat' split at h2
  all_goals repeat' split
  all_goals (simp only [decide_eq_true_eq] at *)
  all_goals omega

set_option maxRecDepth 100000 in
set_option maxHeartbeats 2000000 in
theorem lawReqLess {w : World} {A B : Option Addr} {n c m d : Nat} (hm : n ≤ maxLen) (hm' : m ≤ maxLen) (hc : n ≤ c) (hd : m ≤ d) (hb : InB w A n) (hb' : InB w B m) :
    Calls Try.prog 3 #[.slice A n c, .slice B m d] w fun e w' => e = .returned (.bool true) ∧ Below w.heap.size w w' := by
  unfold maxLen at hm hm'
  have HB := Lib.hid hb
  have HB' := Lib.hid hb'
  clear hb hb'
  go_enter Try.func3, Try.ntmps3
  by_cases hn : 1048576 < n
  · have e0 : (decide ((1048576 : Int) < (n : Int))) = true := by simp; omega
    go_wp2
    go_light
    go_ret
    exact ⟨rfl, Below.refl _ _⟩
  have e0 : (decide ((1048576 : Int) < (n : Int))) = false := by simp; omega
  by_cases hn' : 1048576 < m
  · have e1 : (decide ((1048576 : Int) < (m : Int))) = true := by simp; omega
    go_wp2
    go_light
    go_ret
    exact ⟨rfl, Below.refl _ _⟩
  have e1 : (decide ((1048576 : Int) < (m : Int))) = false := by simp; omega
  go_wp2_with (fail)
  refine (drawReqLess (by omega) hc HB.out).mono ?_
  rintro e w1 ⟨a1, a2, a3, a4, a5, b1, b2, b3, b4, b5, rfl, hbl⟩
  have BL := Lib.hid hbl
  clear hbl
  go_wp2_with (fail)
  refine (drawReqLess (by omega) hd ((HB'.out.below BL.out).below ?hb)).mono ?_
  case hb => first | exact Below.refl _ _ | exact (Below.refl _ _).alloc (Nat.le_refl _) _ | exact ((Below.refl _ _).alloc (Nat.le_refl _) _).alloc (by simp) _
  rintro e w2 ⟨c1, c2, c3, c4, c5, x1, x2, x3, x4, x5, rfl, hbl⟩
  have FA := Lib.hid (((((Five.new w1).alloc (.cells #[.int .i64 b1, .int .i64 b2, .int .i64 b3, .int .i64 b4, .int .i64 b5] 24)).grown (Below.grownBy hbl none) (by simp)).alloc (.cells #[.int .i64 c1, .int .i64 c2, .int .i64 c3, .int .i64 c4, .int .i64 c5] 24)).alloc (.cells #[.int .i64 x1, .int .i64 x2, .int .i64 x3, .int .i64 x4, .int .i64 x5] 24) : Five _ w1.heap.size 24 (.int .i64 a1) (.int .i64 a2) (.int .i64 a3) (.int .i64 a4) (.int .i64 a5))
  have FB := Lib.hid ((((Five.new (w1.alloc (.cells #[.int .i64 a1, .int .i64 a2, .int .i64 a3, .int .i64 a4, .int .i64 a5] 24))).grown (Below.grownBy hbl none) (by simp)).alloc (.cells #[.int .i64 c1, .int .i64 c2, .int .i64 c3, .int .i64 c4, .int .i64 c5] 24)).alloc (.cells #[.int .i64 x1, .int .i64 x2, .int .i64 x3, .int .i64 x4, .int .i64 x5] 24) : Five _ (w1.alloc (.cells #[.int .i64 a1, .int .i64 a2, .int .i64 a3, .int .i64 a4, .int .i64 a5] 24)).heap.size 24 (.int .i64 b1) (.int .i64 b2) (.int .i64 b3) (.int .i64 b4) (.int .i64 b5))
  have FB : Hid (Five ((w2.alloc (.cells #[.int .i64 c1, .int .i64 c2, .int .i64 c3, .int .i64 c4, .int .i64 c5] 24)).alloc (.cells #[.int .i64 x1, .int .i64 x2, .int .i64 x3, .int .i64 x4, .int .i64 x5] 24)) (w1.heap.size + 1) 24 (.int .i64 b1) (.int .i64 b2) (.int .i64 b3) (.int .i64 b4) (.int .i64 b5)) := by simpa [Hid] using FB.out
  have FC := Lib.hid ((Five.new w2).alloc (.cells #[.int .i64 x1, .int .i64 x2, .int .i64 x3, .int .i64 x4, .int .i64 x5] 24) : Five ((w2.alloc (.cells #[.int .i64 c1, .int .i64 c2, .int .i64 c3, .int .i64 c4, .int .i64 c5] 24)).alloc (.cells #[.int .i64 x1, .int .i64 x2, .int .i64 x3, .int .i64 x4, .int .i64 x5] 24)) w2.heap.size 24 (.int .i64 c1) (.int .i64 c2) (.int .i64 c3) (.int .i64 c4) (.int .i64 c5))
  have BL := Lib.hid (Below.and (Below.and BL.out (below_alloc2 w1 _ _)) (Below.and hbl (below_alloc2 w2 (.cells #[.int .i64 c1, .int .i64 c2, .int .i64 c3, .int .i64 c4, .int .i64 c5] 24) (.cells #[.int .i64 x1, .int .i64 x2, .int .i64 x3, .int .i64 x4, .int .i64 x5] 24))))
  clear hbl
  obtain ⟨a1', a2', a3', a4', a5'⟩ := FA.out.cells
  obtain ⟨b1', b2', b3', b4', b5'⟩ := FB.out.cells
  obtain ⟨c1', c2', c3', c4', c5'⟩ := FC.out.cells
  go_wp2_with (fail)
  refine (reqLess a1 a2 a3 a4 a5 b1 b2 b3 b4 b5 _).mono ?_
  rintro e w3 ⟨rfl, hbl⟩
  have FA := Lib.hid (FA.out.grown (Below.grownBy hbl none) (by simp))
  have FB := Lib.hid (FB.out.grown (Below.grownBy hbl none) (by simp))
  have FC := Lib.hid (FC.out.grown (Below.grownBy hbl none) (by simp))
  have BL := Lib.hid (Below.and BL.out hbl)
  clear hbl a1' a2' a3' a4' a5' b1' b2' b3' b4' b5' c1' c2' c3' c4' c5'
  obtain ⟨a1', a2', a3', a4', a5'⟩ := FA.out.cells
  obtain ⟨b1', b2', b3', b4', b5'⟩ := FB.out.cells
  obtain ⟨c1', c2', c3', c4', c5'⟩ := FC.out.cells
  go_wp2_with (fail)
  refine (specReqLess a1 a2 a3 a4 a5 b1 b2 b3 b4 b5 _).mono ?_
  rintro e w4 ⟨rfl, hbl⟩
  have FA := Lib.hid (FA.out.grown (Below.grownBy hbl none) (by simp))
  have FB := Lib.hid (FB.out.grown (Below.grownBy hbl none) (by simp))
  have FC := Lib.hid (FC.out.grown (Below.grownBy hbl none) (by simp))
  have BL := Lib.hid (Below.and BL.out hbl)
  clear hbl a1' a2' a3' a4' a5' b1' b2' b3' b4' b5' c1' c2' c3' c4' c5'
  have bb : (lessB a1 a2 a3 a4 a5 b1 b2 b3 b4 b5 != lessB a1 a2 a3 a4 a5 b1 b2 b3 b4 b5) = false := by simp
  obtain ⟨a1', a2', a3', a4', a5'⟩ := FA.out.cells
  obtain ⟨b1', b2', b3', b4', b5'⟩ := FB.out.cells
  obtain ⟨c1', c2', c3', c4', c5'⟩ := FC.out.cells
  go_wp2_with (fail)
  refine (reqLess b1 b2 b3 b4 b5 a1 a2 a3 a4 a5 _).mono ?_
  rintro e w5 ⟨rfl, hbl⟩
  have FA := Lib.hid (FA.out.grown (Below.grownBy hbl none) (by simp))
  have FB := Lib.hid (FB.out.grown (Below.grownBy hbl none) (by simp))
  have FC := Lib.hid (FC.out.grown (Below.grownBy hbl none) (by simp))
  have BL := Lib.hid (Below.and BL.out hbl)
  clear hbl a1' a2' a3' a4' a5' b1' b2' b3' b4' b5' c1' c2' c3' c4' c5'
  have hEq := fun W => eqlReq ⟨a1, a2, a3, a4, a5⟩ ⟨b1, b2, b3, b4, b5⟩ W
  have HT := Lib.hid (fun h1 h2 => less_trans (a1 := a1) (a2 := a2) (a3 := a3) (a4 := a4) (a5 := a5) (b1 := b1) (b2 := b2) (b3 := b3) (b4 := b4) (b5 := b5) (c1 := c1) (c2 := c2) (c3 := c3) (c4 := c4) (c5 := c5) h1 h2)
  clear bb
  obtain ⟨a1', a2', a3', a4', a5'⟩ := FA.out.cells
  obtain ⟨b1', b2', b3', b4', b5'⟩ := FB.out.cells
  obtain ⟨c1', c2', c3', c4', c5'⟩ := FC.out.cells
  rcases less_tri a1 a2 a3 a4 a5 b1 b2 b3 b4 b5 with ⟨l1, l2, l5⟩ | ⟨l1, l2, l5⟩ | ⟨l1, l2, l5⟩
  all_goals simp only [l5] at hEq
  all_goals rw [l2]
  · rw [l1]
    clear l1 l2 l5 HT
    go_wp2
    go_light
    go_ret
    exact ⟨rfl, BL.out⟩
  · rw [l1]
    clear l1 l2 l5 HT
    go_wp2
    go_light
    go_ret
    exact ⟨rfl, BL.out⟩
  · have H1 := Lib.hid l1
    rw [l1]
    clear l1 l2 l5
    go_wp2_with (fail)
    refine (reqLess b1 b2 b3 b4 b5 c1 c2 c3 c4 c5 _).mono ?_
    rintro e w6 ⟨rfl, hbl⟩
    have FA := Lib.hid (FA.out.grown (Below.grownBy hbl none) (by simp))
    have FC := Lib.hid (FC.out.grown (Below.grownBy hbl none) (by simp))
    have BL := Lib.hid (Below.and BL.out hbl)
    clear hbl a1' a2' a3' a4' a5' b1' b2' b3' b4' b5' c1' c2' c3' c4' c5' hEq
    obtain ⟨a1', a2', a3', a4', a5'⟩ := FA.out.cells
    obtain ⟨c1', c2', c3', c4', c5'⟩ := FC.out.cells
    rcases l3 : lessB b1 b2 b3 b4 b5 c1 c2 c3 c4 c5 with _ | _
    · clear l3
      go_wp2
      go_light
      go_ret
      exact ⟨rfl, BL.out⟩
    · have l4 := HT.out H1.out l3
      clear l3
      go_wp2_with (fail)
      refine (reqLess a1 a2 a3 a4 a5 c1 c2 c3 c4 c5 _).mono ?_
      rintro e w7 ⟨rfl, hbl⟩
      rw [l4]
      have BL := Lib.hid (Below.and BL.out hbl)
      clear hbl l4
      go_wp2
      go_light
      go_ret
      exact ⟨rfl, BL.out⟩
end Go.Proofs.Ytephmhgjhjheaaa
