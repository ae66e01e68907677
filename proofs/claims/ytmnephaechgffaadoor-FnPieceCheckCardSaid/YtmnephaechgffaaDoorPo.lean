/- A piece's way up a tree, as lists and both ways. -/
import Derived.Test.YtmnephaechgffaaDoorPn
import Derived.Test.YtmnephaechgffaaDoorTa
import Derived.Test.YtmnephaechgffaaDoorMem3
import Derived.Test.YtmnephaechgffaaDoorZT
namespace Go.Proofs.YtmnephaechgffaaDoor
open Go.ChangeShapes Go.WideShapes Go.ChangeAt Go.RowKit
set_option linter.unusedVariables false
set_option linter.unusedSimpArgs false

/-- What stands at the top, and the sums that are left over. -/
def chk : Nat → Nat → Nat → Int → List Int → Option (Int × List Int)
  | 0, _, _, x, P => some (x, P)
  | f + 1, m, a, x, P =>
    if m ≤ 1 then some (x, P)
    else if a ^^^ 1 < m then
      match P with
      | [] => none
      | p :: P' => chk f ((m + 1) / 2) (a / 2) (if a % 2 = 0 then nodeN x p else nodeN p x) P'
    else chk f ((m + 1) / 2) (a / 2) x P
theorem chk_done (f m a : Nat) (x : Int) (P : List Int) (h : m ≤ 1) : chk f m a x P = some (x, P) := by
  cases f with
  | zero => rfl
  | succ f => show (if m ≤ 1 then _ else _) = _; rw [if_pos h]
theorem chk_skip (f m a : Nat) (x : Int) (P : List Int) (h : ¬ m ≤ 1) (h2 : ¬ a ^^^ 1 < m) : chk (f + 1) m a x P = chk f ((m + 1) / 2) (a / 2) x P := by
  show (if m ≤ 1 then _ else if _ then _ else _) = _; rw [if_neg h, if_neg h2]
theorem chk_none (f m a : Nat) (x : Int) (h : ¬ m ≤ 1) (h2 : a ^^^ 1 < m) : chk (f + 1) m a x [] = none := by
  show (if m ≤ 1 then _ else if _ then _ else _) = _; rw [if_neg h, if_pos h2]
theorem chk_take (f m a : Nat) (x p : Int) (P : List Int) (h : ¬ m ≤ 1) (h2 : a ^^^ 1 < m) : chk (f + 1) m a x (p :: P) = chk f ((m + 1) / 2) (a / 2) (if a % 2 = 0 then nodeN x p else nodeN p x) P := by
  show (if m ≤ 1 then _ else if _ then _ else _) = _; rw [if_neg h, if_pos h2]
theorem sib_even : ∀ a : Nat, a < 16 → (a % 2 = 0 → a < a ^^^ 1) ∧ (a % 2 ≠ 0 → a ^^^ 1 < a) := by decide
theorem sib_lt (a : Nat) (h : a < 16) : a ^^^ 1 < 16 := Nat.xor_lt_two_pow (n := 4) h (by omega)

set_option maxRecDepth 100000 in
theorem siblingI (a m : Nat) (w : World) (ha : a < 16) :
    Calls Tryd.prog 41 #[.int .i64 (a : Int), .int .i64 (m : Int)] w fun e w' => e = .returned (.tuple #[.int .i64 ((a ^^^ 1 : Nat) : Int), .bool (decide (a ^^^ 1 < m))]) ∧ w = w' := by
  have ex := i64_xorC a 1 (by omega) (by omega)
  have ex : bits .xor .i64 (a : Int) 1 = ((a ^^^ 1 : Nat) : Int) := ex
  have HT := Lib.hid (show (decide (((a ^^^ 1 : Nat) : Int) < (m : Int))) = decide (a ^^^ 1 < m) by simp)
  go_enter Tryd.func41, Tryd.ntmps41
  go_wp2
  exact bodyPost_ret (v := .tuple #[.int .i64 ((a ^^^ 1 : Nat) : Int), .bool (decide (((a ^^^ 1 : Nat) : Int) < (m : Int)))]) (by simp [results, Tryd.results41, go_sem]) rfl ⟨by rw [HT.out], rfl⟩

end Go.Proofs.YtmnephaechgffaaDoor
