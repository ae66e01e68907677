/- Of a new keeper: the law. -/
import Derived.Test.YtfelhnchnaggmaaRd
import Derived.Test.YtfelhnchnaggmaaRf
import Derived.Test.YtfelhnchnaggmaaLt
import Derived.Test.YtfelhnchnaggmaaMD
namespace Go.Proofs.Ytfelhnchnaggmaa
open Go.ChangeShapes Go.WideShapes Go.ChangeAt Go.RowKit
set_option linter.unusedVariables false
set_option linter.unusedSimpArgs false

set_option maxRecDepth 100000 in
set_option maxHeartbeats 2000000 in
theorem wpClaimsNil (w : World) :
    Calls Try.prog 48 #[.slice none 0 0, .slice none 0 0] w fun e w' => e = .returned (.bool true) ∧ w = w' := by
  go_enter Try.func48, Try.ntmps48
  go_wp2
  go_loop [5] (fun i => i = .int .i64 0) (fun _ => 0)
  case atStart => rfl
  case round =>
    obtain rfl := hrel
    go_wp2
    go_light
    go_ret
    exact ⟨rfl, rfl⟩

set_option maxRecDepth 100000 in
set_option maxHeartbeats 2000000 in
theorem wpMsgsNil (w : World) :
    Calls Try.prog 24 #[.slice none 0 0, .slice none 0 0] w fun e w' => e = .returned (.bool true) ∧ w = w' := by
  go_enter Try.func24, Try.ntmps24
  go_wp2
  go_loop [5] (fun i => i = .int .i64 0) (fun _ => 0)
  case atStart => rfl
  case round =>
    obtain rfl := hrel
    go_wp2
    go_light
    go_ret
    exact ⟨rfl, rfl⟩

set_option maxRecDepth 100000 in
set_option maxHeartbeats 4000000 in
theorem wpRepNil (a : Int) (l : Bool) (n : Int) (w : World) :
    Calls Try.prog 25 #[.agg #[.int .i64 a, .int .i64 0, .bool l, .int .i64 n, .slice none 0 0, .slice none 0 0, .slice none 0 0], .agg #[.int .i64 a, .int .i64 0, .bool l, .int .i64 n, .slice none 0 0, .slice none 0 0, .slice none 0 0]] w fun e w' => e = .returned (.bool true) ∧ Below w.heap.size w w' := by
  have BW : Hid (Below w.heap.size w ((w.alloc (.cells #[.int .i64 a, .int .i64 0, .bool l, .int .i64 n, .slice none 0 0, .slice none 0 0, .slice none 0 0] 47)).alloc (.cells #[.int .i64 a, .int .i64 0, .bool l, .int .i64 n, .slice none 0 0, .slice none 0 0, .slice none 0 0] 47))) := below_alloc2 _ _ _
  have e0 : (a == a) = true := by simp
  have e1 : (l == l) = true := by simp
  have e2 : (n == n) = true := by simp
  go_enter Try.func25, Try.ntmps25
  go_wp2_with (first | (go_at_call 48; refine (wpClaimsNil _).mono ?_; rintro e w' ⟨rfl, rfl⟩) | (go_at_call 24; refine (wpMsgsNil _).mono ?_; rintro e w' ⟨rfl, rfl⟩))
  go_light
  go_ret
  exact ⟨rfl, BW.out⟩

theorem rep_new {me : Int} (h : inB me 0 3 = true) : repB (nilR me true 1) = true := by
  unfold repB
  have h1 : tkB (nilR me true 1).tk = true := decide_eq_true ⟨(fun c hc => by cases hc), List.nodup_nil⟩
  have h2 : hdB (nilR me true 1).hd = true := rfl
  have h3 : inB (nilR me true 1).me 0 3 = true := h
  have h4 : inB (nilR me true 1).v 0 6 = true := (by decide : inB 0 0 6 = true)
  have h5 : inB (nilR me true 1).nx 1 6 = true := (by decide : inB 1 1 6 = true)
  have h6 : clsB 0 (nilR me true 1).dn = true := rfl
  rw [h1, h2, h3, h4, h5, h6]
  rfl
theorem list_new (a : Int) (l : Bool) (n : Int) : listR (nilR a l n) = [] := by
  unfold listR
  split <;> rfl

end Go.Proofs.Ytfelhnchnaggmaa
