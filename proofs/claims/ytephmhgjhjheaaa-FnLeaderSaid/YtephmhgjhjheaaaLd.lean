/- Who leads in a view: contracts. -/
import Derived.Test.YtephmhgjhjheaaaTa
import Derived.Test.YtephmhgjhjheaaaTb
import Derived.IntWalk
namespace Go.Proofs.Ytephmhgjhjheaaa
open Go.ChangeShapes Go.WideShapes Go.ChangeAt Go.RowKit
set_option linter.unusedVariables false

def leadI (v : Int) : Int := if inB v 0 6 = true then v % 4 else -1

theorem isView (n : Int) (w : World) :
    Calls Try.prog 100 #[.int .i64 n] w fun e w' => e = .returned (.bool (inB n 0 6)) ∧ w = w' := by
  go_enter Try.func100, Try.ntmps100
  go_wp2_with (go_at_call 166; refine (implIn _ _ _ _).mono ?_; rintro e w' ⟨rfl, rfl⟩)
  go_ret
  exact ⟨rfl, rfl⟩

theorem l3Leader (v : Int) (w : World) (h : 0 ≤ v) :
    Calls Try.prog 102 #[.int .i64 v] w fun e w' => e = .returned (.int .i64 (v % 4)) ∧ w = w' := by
  go_enter Try.func102, Try.ntmps102
  go_wp2
  go_ret
  exact ⟨rfl, rfl⟩

theorem implLeader (v : Int) (w : World) :
    Calls Try.prog 35 #[.int .i64 v] w fun e w' => e = .returned (.int .i64 (leadI v)) ∧ w = w' := by
  rcases h : inB v 0 6 with _ | _
  · go_enter Try.func35, Try.ntmps35
    go_wp2_with (go_at_call 100; refine (isView _ _).mono ?_; rintro e w' ⟨rfl, rfl⟩; rw [h])
    go_ret
    exact ⟨ret_int (by rw [leadI, h]; rfl), rfl⟩
  · have h0 : 0 ≤ v := by simp [inB] at h; omega
    go_enter Try.func35, Try.ntmps35
    go_wp2_with (go_at_call 100; refine (isView _ _).mono ?_; rintro e w' ⟨rfl, rfl⟩; rw [h])
    go_ret
    exact ⟨ret_int (by rw [leadI, h]; rfl), rfl⟩

theorem specLeader (v : Int) (w : World) :
    Calls Try.prog 36 #[.int .i64 v] w fun e w' => e = .returned (.int .i64 (leadI v)) ∧ w = w' := by
  rcases h : inB v 0 6 with _ | _
  · go_enter Try.func36, Try.ntmps36
    go_wp2_with (go_at_call 101; refine (specIn _ _ _ _).mono ?_; rintro e w' ⟨rfl, rfl⟩; rw [h])
    go_ret
    exact ⟨ret_int (by rw [leadI, h]; rfl), rfl⟩
  · have h0 : 0 ≤ v := by simp [inB] at h; omega
    go_enter Try.func36, Try.ntmps36
    go_wp2_with (first | (go_at_call 101; refine (specIn _ _ _ _).mono ?_; rintro e w' ⟨rfl, rfl⟩; rw [h]) | (go_at_call 102; refine (l3Leader _ _ h0).mono ?_; rintro e w' ⟨rfl, rfl⟩))
    go_ret
    exact ⟨ret_int (by rw [leadI, h]; rfl), rfl⟩

theorem exactLeader (v : Int) (w : World) :
    Calls Try.prog 12 #[.int .i64 v] w fun e w' => e = .returned (.bool true) ∧ Below w.heap.size w w' := by
  have hb : (leadI v != leadI v) = false := by simp
  go_enter Try.func12, Try.ntmps12
  go_wp2_with (first | (go_at_call 36; refine (specLeader _ _).mono ?_; rintro e w' ⟨rfl, rfl⟩) | (go_at_call 35; refine (implLeader _ _).mono ?_; rintro e w' ⟨rfl, rfl⟩))
  go_light
  go_ret
  exact ⟨rfl, Below.refl _ _⟩
end Go.Proofs.Ytephmhgjhjheaaa
