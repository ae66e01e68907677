/- A new game: the program's and the model's. -/
import Derived.Test.YtmnephaechgffaaDoorTf
namespace Go.Proofs.YtmnephaechgffaaDoor
open Go.ChangeShapes Go.WideShapes Go.ChangeAt Go.RowKit
set_option linter.unusedVariables false

def floorAt : Nat → List Int
  | 0 => List.replicate 16 0
  | k + 1 => (floorAt k).set (5 * k % 16) ((floorAt k).getD (5 * k % 16) 0 + 1)

theorem floorAt_length (k : Nat) : (floorAt k).length = 16 := by
  induction k with
  | zero => rfl
  | succ k ih => simp [floorAt, ih]

theorem floorAt_bd : ∀ k, k < 20 → 0 ≤ (floorAt k).getD (5 * k % 16) 0 ∧ (floorAt k).getD (5 * k % 16) 0 ≤ 20 := by decide

theorem make16 (w : World) : (Instr.makeSlice 22 (.int .i64 16) (.int .i64 16)).run Tryd.prog w = .ok (.slice (some ⟨w.heap.size, 0, none⟩) 16 16) (w.alloc (.cells (List.replicate 16 (.int .i64 0)).toArray 3)) := by kernel_rfl
theorem make4 (w : World) : (Instr.makeSlice 22 (.int .i64 4) (.int .i64 4)).run Tryd.prog w = .ok (.slice (some ⟨w.heap.size, 0, none⟩) 4 4) (w.alloc (.cells #[.int .i64 0, .int .i64 0, .int .i64 0, .int .i64 0] 3)) := by kernel_rfl

def zeros16 : Array Value := (List.replicate 16 (.int .i64 0)).toArray

end Go.Proofs.YtmnephaechgffaaDoor
