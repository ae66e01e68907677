/- Small contracts. -/
import Derived.Test.YthidcmffnpnjjaaDoorRows
import Derived.WalkKit
import Derived.ProofKit
import Derived.Outline
import Derived.Lib.Hide
import Derived.Deep.Light
import Derived.BigQuiet
import Derived.Deep.QuietTactic
namespace Go.Proofs.YthidcmffnpnjjaaDoor
open Go.ChangeShapes Go.WideShapes Go.ChangeAt Go.RowKit

def inB (n lo hi : Int) : Bool := decide (lo ≤ n) && decide (n ≤ hi)

theorem specIn (n lo hi : Int) (w : World) :
    Calls Tryd.prog 24 #[.int .i64 n, .int .i64 lo, .int .i64 hi] w fun e w' => e = .returned (.bool (inB n lo hi)) ∧ w = w' := by
  go_enter Tryd.func24, Tryd.ntmps24
  by_cases h1 : lo ≤ n
  all_goals by_cases h2 : n ≤ hi
  all_goals go_wp2
  all_goals go_ret
  all_goals simp [inB]; omega

theorem implIn (n lo hi : Int) (w : World) :
    Calls Tryd.prog 36 #[.int .i64 n, .int .i64 lo, .int .i64 hi] w fun e w' => e = .returned (.bool (inB n lo hi)) ∧ w = w' := by
  go_enter Tryd.func36, Tryd.ntmps36
  by_cases h1 : lo ≤ n
  all_goals by_cases h2 : n ≤ hi
  all_goals go_wp2
  all_goals go_ret
  all_goals simp [inB]; omega

abbrev req (c n o x y : Int) : Value := .agg #[.int .i64 c, .int .i64 n, .int .i64 o, .int .i64 x, .int .i64 y]

def shapeB (o x y : Int) : Bool :=
  if o = 1 ∨ o = 3 then inB x 0 0 && inB y 0 0
  else if o = 2 then inB x (-1) 1 && inB y (-1) 1
  else if o = 4 then inB x 1 4 && inB y 0 0
  else if o = 5 then inB x 1 4 && inB y 1 9
  else false

def reqB (c n o x y : Int) : Bool := inB c 1 4 && (inB n 1 30 && shapeB o x y)

theorem ret_bool {a b : Bool} (h : a = b) : Ending.returned (.bool a) = .returned (.bool b) := by rw [h]

theorem boxed {w w1 : World} {o : Obj} (hb : Below (w.alloc o).heap.size (w.alloc o) w1) (k : Nat) : w1.cell? ⟨w.heap.size, k, none⟩ = (w.alloc o).cell? ⟨w.heap.size, k, none⟩ := hb.cell (by simp)

theorem Below.then {a b c : World} (h : Below a.heap.size a b) (k : Below b.heap.size b c) : Below a.heap.size a c := h.trans (k.mono h.size)

theorem below_box {w w1 : World} {o : Obj} (hb : Below (w.alloc o).heap.size (w.alloc o) w1) : Below w.heap.size w w1 := ((Below.refl _ _).alloc (Nat.le_refl _) _).trans (hb.mono (by simp))

end Go.Proofs.YthidcmffnpnjjaaDoor
