/- The laws of dice: the next numbers, the rolls. -/
import Derived.Test.YtkhneligclhgaaaFl
namespace Go.Proofs.Ytkhneligclhgaaa
open Go.ChangeShapes Go.WideShapes Go.ChangeAt Go.RowKit
set_option linter.unusedVariables false
set_option linter.unusedSimpArgs false

set_option maxRecDepth 100000 in
set_option maxHeartbeats 4000000 in
theorem lawDiceNext (A : Option Addr) (c n : Nat) (B : Option Addr) (d m : Nat) (w : World) (hn : n ≤ maxLen) (hc : n ≤ c) (hb : InB w A n) (hm : m ≤ maxLen) (hd : m ≤ d) (hb2 : InB w B m) :
    Calls Try.prog 3 #[.slice A n c, .slice B m d] w fun e w' => e = .returned (.bool true) ∧ Below w.heap.size w w' := by
  have HB := Lib.hid hb
  have HB2 := Lib.hid hb2
  have Z : Hid (Below w.heap.size w w) := Below.refl _ _
  clear hb hb2 hn hm
  go_enter Try.func3, Try.ntmps3
  by_cases h1 : (1048576 : Int) < n
  · go_wp2
    go_light
    go_ret
    exact ⟨rfl, Z.out⟩
  by_cases h2 : (1048576 : Int) < m
  · go_wp2
    go_light
    go_ret
    exact ⟨rfl, Z.out⟩
  go_wp2_with (fail)
  refine (drawDiceNext (by omega) hc HB.out).mono ?_
  rintro e w1 ⟨a, rfl, hz⟩
  replace Z := Lib.hid hz
  have HB2 := Lib.hid (show InB w1 B m from fun i hi => by
    obtain ⟨b, off, u, g1, g2, g3⟩ := HB2.out i hi
    exact ⟨b, off, u, g1, cell_kept Z.out g2, g3⟩)
  clear hz
  go_wp2_with (fail)
  refine (drawDiceNext (by omega) hd HB2.out).mono ?_
  rintro e w2 ⟨b, rfl, hz⟩
  replace Z := Lib.hid (Below.and Z.out hz)
  clear hz HB HB2 h1 h2 hc hd
  obtain ⟨x, hx⟩ : ∃ x, dNxI a = x := ⟨_, rfl⟩
  have HX := Lib.hid hx
  have e0 : (x != x) = false := by simp
  have e1 : (x == x) = true := by simp
  rcases ha : sdB a with _ | _
  · have HN : x = -1 := by rw [← hx]; unfold dNxI; rw [ha]; rfl
    have l0 : x < 0 := by omega
    clear hx HN ha
    go_wp2_with (fail)
    refine (implNext _ _).mono ?_
    rintro e w' ⟨rfl, rfl⟩
    rw [HX.out]
    go_wp2_with (fail)
    refine (specNext _ _).mono ?_
    rintro e w' ⟨rfl, rfl⟩
    rw [HX.out]
    go_wp2_with (fail)
    refine (specNext _ _).mono ?_
    rintro e w' ⟨rfl, rfl⟩
    rw [HX.out]
    go_wp2
    go_light
    go_ret
    exact ⟨rfl, Z.out⟩
  obtain ⟨na, rfl, hna⟩ := sdB_nat ha
  have hxn : x = ((dNx na : Nat) : Int) := by rw [← hx]; exact dNxI_nat hna
  have l0 : ¬ x < 0 := by rw [hxn]; omega
  have l1 : x ≤ 2147483647 := by have := dNx_lt na; omega
  by_cases b0 : b < 0
  · clear hx hxn ha
    go_wp2_with (fail)
    refine (implNext _ _).mono ?_
    rintro e w' ⟨rfl, rfl⟩
    rw [HX.out]
    go_wp2_with (fail)
    refine (specNext _ _).mono ?_
    rintro e w' ⟨rfl, rfl⟩
    rw [HX.out]
    go_wp2_with (fail)
    refine (specNext _ _).mono ?_
    rintro e w' ⟨rfl, rfl⟩
    rw [HX.out]
    go_wp2
    go_light
    go_ret
    exact ⟨rfl, Z.out⟩
  by_cases b1 : 2147483647 < b
  · clear hx hxn ha
    go_wp2_with (fail)
    refine (implNext _ _).mono ?_
    rintro e w' ⟨rfl, rfl⟩
    rw [HX.out]
    go_wp2_with (fail)
    refine (specNext _ _).mono ?_
    rintro e w' ⟨rfl, rfl⟩
    rw [HX.out]
    go_wp2_with (fail)
    refine (specNext _ _).mono ?_
    rintro e w' ⟨rfl, rfl⟩
    rw [HX.out]
    go_wp2
    go_light
    go_ret
    exact ⟨rfl, Z.out⟩
  obtain ⟨nb, rfl⟩ : ∃ nb : Nat, b = (nb : Int) := ⟨b.toNat, by omega⟩
  have hnb : nb ≤ 2147483647 := by omega
  obtain ⟨y, hy⟩ : ∃ y, dNxI (nb : Int) = y := ⟨_, rfl⟩
  have HY := Lib.hid hy
  have hyn : y = ((dNx nb : Nat) : Int) := by rw [← hy]; exact dNxI_nat hnb
  by_cases eab : na = nb
  · have q1 : (x == y) = true := by rw [hxn, hyn, eab]; simp
    have q2 : ((na : Int) == (nb : Int)) = true := by rw [eab]; simp
    clear hx hxn ha hy hyn eab
    go_wp2_with (fail)
    refine (implNext _ _).mono ?_
    rintro e w' ⟨rfl, rfl⟩
    rw [HX.out]
    go_wp2_with (fail)
    refine (specNext _ _).mono ?_
    rintro e w' ⟨rfl, rfl⟩
    rw [HX.out]
    go_wp2_with (fail)
    refine (implNext _ _).mono ?_
    rintro e w' ⟨rfl, rfl⟩
    rw [HY.out]
    go_wp2
    go_light
    go_ret
    exact ⟨rfl, Z.out⟩
  · have q1 : (x == y) = false := by
      have h : x ≠ y := by
        rw [hxn, hyn]
        exact fun h => eab (dNx_inj hna hnb (by omega))
      simpa using h
    have q2 : ((na : Int) == (nb : Int)) = false := by
      have h3 : ¬ (na : Int) = (nb : Int) := by omega
      simpa using h3
    clear hx hxn ha hy hyn eab
    go_wp2_with (fail)
    refine (implNext _ _).mono ?_
    rintro e w' ⟨rfl, rfl⟩
    rw [HX.out]
    go_wp2_with (fail)
    refine (specNext _ _).mono ?_
    rintro e w' ⟨rfl, rfl⟩
    rw [HX.out]
    go_wp2_with (fail)
    refine (implNext _ _).mono ?_
    rintro e w' ⟨rfl, rfl⟩
    rw [HY.out]
    go_wp2
    go_light
    go_ret
    exact ⟨rfl, Z.out⟩

set_option maxRecDepth 100000 in
set_option maxHeartbeats 4000000 in
theorem lawDiceRoll (A : Option Addr) (c n : Nat) (w : World) (hn : n ≤ maxLen) (hc : n ≤ c) (hb : InB w A n) :
    Calls Try.prog 4 #[.slice A n c] w fun e w' => e = .returned (.bool true) ∧ Below w.heap.size w w' := by
  have HB := Lib.hid hb
  have Z : Hid (Below w.heap.size w w) := Below.refl _ _
  clear hb hn
  go_enter Try.func4, Try.ntmps4
  by_cases h1 : (1048576 : Int) < n
  · go_wp2
    go_light
    go_ret
    exact ⟨rfl, Z.out⟩
  go_wp2_with (fail)
  refine (drawDiceRoll (by omega) hc HB.out).mono ?_
  rintro e w1 ⟨a, k, rfl, hz⟩
  replace Z := Lib.hid hz
  clear hz HB h1 hc
  obtain ⟨⟨x, y⟩, hx⟩ : ∃ x, dRl a k = x := ⟨_, rfl⟩
  have HX := Lib.hid hx
  have e0 : (x != x) = false := by simp
  have e1 : (x == x) = true := by simp
  have e2 : (y != y) = false := by simp
  have e3 : (y == y) = true := by simp
  rcases ha : rlB a k with _ | _
  · have HN : x = -1 := by have h := hx; unfold dRl at h; rw [ha] at h; injection h with h _; exact h.symm
    have l0 : x < 0 := by omega
    clear hx HN ha
    go_wp2_with (fail)
    refine (implRoll _ _ _).mono ?_
    rintro e w' ⟨rfl, rfl⟩
    rw [HX.out]
    go_wp2_with (fail)
    refine (specRoll _ _ _).mono ?_
    rintro e w' ⟨rfl, rfl⟩
    rw [HX.out]
    go_wp2
    go_light
    go_ret
    exact ⟨rfl, Z.out⟩
  have hab : sdB a = true ∧ inB k 1 20 = true := by unfold rlB at ha; simpa using ha
  obtain ⟨na, rfl, hna⟩ := sdB_nat hab.1
  obtain ⟨m, rfl, hm1, hm2⟩ : ∃ m : Nat, k = (m : Int) ∧ 1 ≤ m ∧ m ≤ 20 := by
    have h2 := hab.2
    simp only [inB, Bool.and_eq_true, decide_eq_true_eq] at h2
    exact ⟨k.toNat, by omega, by omega, by omega⟩
  have hxy := dRl_nat hna hm1 hm2
  rw [hx] at hxy
  injection hxy with hx1 hy1
  have hlt := dRk_lt na hm1
  have l0 : ¬ x < 0 := by omega
  have l1 : x < (m : Int) := by omega
  have HY := Lib.hid (show dNxI (na : Int) = y by rw [hy1]; exact dNxI_nat hna)
  clear hx hx1 hy1 hlt ha hab
  go_wp2_with (fail)
  refine (implRoll _ _ _).mono ?_
  rintro e w' ⟨rfl, rfl⟩
  rw [HX.out]
  go_wp2_with (fail)
  refine (specRoll _ _ _).mono ?_
  rintro e w' ⟨rfl, rfl⟩
  rw [HX.out]
  go_wp2_with (fail)
  refine (implNext _ _).mono ?_
  rintro e w' ⟨rfl, rfl⟩
  rw [HY.out]
  go_wp2
  go_light
  go_ret
  exact ⟨rfl, Z.out⟩

end Go.Proofs.Ytkhneligclhgaaa
