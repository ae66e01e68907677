/- A heap in memory: the child that comes first, whether all is in order, how one rises and sinks. -/
import Derived.Test.YtgnemgnhjallhaaVc
namespace Go.Proofs.Ytgnemgnhjallhaa
open Go.ChangeShapes Go.WideShapes Go.ChangeAt Go.RowKit
set_option linter.unusedVariables false
set_option linter.unusedSimpArgs false

theorem pair_ret {a b : Int} {u v : Bool} (h1 : a = b) (h2 : u = v) : Ending.returned (.tuple #[.int .i64 a, .bool u]) = .returned (.tuple #[.int .i64 b, .bool v]) := by rw [h1, h2]
set_option maxRecDepth 100000 in
set_option maxHeartbeats 2000000 in
theorem smallerChild (lo p : Nat) (A : Option Addr) (a : Nat) (L : List Tm) (i : Nat) (w : World) (hL : L.length ≤ 2097152) (h : Hp w lo p A a L) (hi : i ≤ 2097152) :
    Calls Try.prog 63 #[.pointer (some ⟨p, 0, none⟩), .int .i64 (i : Int)] w fun e w' => e = .returned (.tuple #[.int .i64 ((childT L i : Nat) : Int), .bool (decide (childT L i < L.length))]) ∧ Below w.heap.size w w' := by
  have hL0 : L.length ≤ maxLen := by unfold maxLen; omega
  have HH := Lib.hid h
  have HL0 := Lib.hid hL0
  clear h hL0
  have q0 : w.cell? ⟨p, 0, none⟩ = some (.slice A L.length a) := HH.out.box.cell 0
  have lp := HH.out.box.lt
  by_cases h1 : 2 * i + 2 < L.length
  · have d1 : 2 * (i : Int) + 1 + 1 < (L.length : Int) := by omega
    have P := Lib.hid (fun wx hx => precedes lo p A a L (2 * i + 2) (2 * i + 1) wx HL0.out hx h1 (by omega))
    have e1 := Lib.hid (show 2 * (i : Int) + 1 + 1 = ((2 * i + 2 : Nat) : Int) by omega)
    have e2 := Lib.hid (show 2 * (i : Int) + 1 = ((2 * i + 1 : Nat) : Int) by omega)
    have HC : Hid (childT L i = if lessT (at' L (2 * i + 2)) (at' L (2 * i + 1)) = true then 2 * i + 2 else 2 * i + 1) := by
      show _ = _
      unfold childT
      simp only [h1, true_and]
    generalize lessT (at' L (2 * i + 2)) (at' L (2 * i + 1)) = b at P HC
    go_enter Try.func63, Try.ntmps63
    go_upto_region 2 with (fail)
    go_wp2_with (fail)
    rw [e1.out, e2.out]
    refine (P.out _ HH.out).mono ?_
    rintro e w1 ⟨rfl, hb⟩
    have HH := Lib.hid (HH.out.below hb)
    have Z := Lib.hid hb
    clear hb q0 lp P
    have q0 : w1.cell? ⟨p, 0, none⟩ = some (.slice A L.length a) := HH.out.box.cell 0
    have lp := HH.out.box.lt
    rcases b with _ | _
    · have H9 : Hid (childT L i = 2 * i + 1) := by rw [HC.out]; rfl
      clear HC
      have d2 : 2 * (i : Int) + 1 < (L.length : Int) := by omega
      go_wp2_with (fail)
      go_quiet (fail)
      go_wp2
      go_light
      go_ret2
      exact ⟨pair_ret (by rw [H9.out]; omega) (by rw [H9.out]; simp; omega), Below.drewN Z.out _⟩
    · have H9 : Hid (childT L i = 2 * i + 2) := by rw [HC.out]; rfl
      clear HC
      have d2 : 2 * (i : Int) + 1 + 1 < (L.length : Int) := by omega
      go_wp2_with (fail)
      go_quiet (fail)
      go_wp2
      go_light
      go_ret2
      exact ⟨pair_ret (by rw [H9.out]; omega) (by rw [H9.out]; simp; omega), Below.drewN Z.out _⟩
  · have d1 : decide (2 * (i : Int) + 1 + 1 < (L.length : Int)) = false := by simp; omega
    have H9 : Hid (childT L i = 2 * i + 1) := by
      show _ = _
      unfold childT
      rw [if_neg (fun hh => h1 hh.1)]
    obtain ⟨b, hb⟩ : ∃ b, decide (2 * (i : Int) + 1 < (L.length : Int)) = b := ⟨_, rfl⟩
    go_enter Try.func63, Try.ntmps63
    go_wp2_with (fail)
    go_quiet (fail)
    go_wp2
    go_light
    go_ret2
    exact ⟨pair_ret (by rw [H9.out]; omega) (by rw [H9.out, ← hb, decide_eq_decide]; omega), Below.drewN (Below.refl _ _) _⟩

end Go.Proofs.Ytgnemgnhjallhaa
