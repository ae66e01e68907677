/- The sum of a text, its steps. -/
import Derived.Test.YthidcmffnpnjjaaDoorLaw
import Derived.Laws.BitsAllLaws
import Derived.Lib.Hide
import Derived.Deep.Light
namespace Go.Proofs.YthidcmffnpnjjaaDoor
open Go.ChangeShapes Go.WideShapes Go.ChangeAt Go.RowKit
set_option linter.unusedVariables false
set_option linter.unusedSimpArgs false

def cpoly : Nat := 3988292384
def cbit (c : Nat) : Nat := if c % 2 = 1 then (c / 2) ^^^ cpoly else c / 2
def cbits : Nat → Nat → Nat
  | 0, c => c
  | k + 1, c => cbit (cbits k c)
theorem cbit_lt {c : Nat} (h : c < 4294967296) : cbit c < 4294967296 := by
  unfold cbit cpoly
  split
  · exact Nat.xor_lt_two_pow (n := 32) (by omega) (by omega)
  · omega
theorem cbits_lt {c : Nat} (h : c < 4294967296) : ∀ k, cbits k c < 4294967296
  | 0 => h
  | k + 1 => cbit_lt (cbits_lt h k)
theorem i64_xorC (a b : Nat) (ha : a < 4294967296) (hb : b < 4294967296) : bits .xor .i64 (a : Int) (b : Int) = ((a ^^^ b : Nat) : Int) := by
  have hx : a ^^^ b < 2 ^ 32 := Nat.xor_lt_two_pow (by omega) (by omega)
  have h1 : (BitVec.ofInt 64 (a : Int)).toNat = a := by
    rw [BitVec.ofInt_natCast, BitVec.toNat_ofNat]; exact Nat.mod_eq_of_lt (by omega)
  have h2 : (BitVec.ofInt 64 (b : Int)).toNat = b := by
    rw [BitVec.ofInt_natCast, BitVec.toNat_ofNat]; exact Nat.mod_eq_of_lt (by omega)
  show IntKind.i64.wrap ((BitVec.ofInt 64 (a : Int) ^^^ BitVec.ofInt 64 (b : Int)).toNat : Int) = _
  rw [BitVec.toNat_xor, h1, h2]
  exact IntWalk.i64_in _ (by omega)

end Go.Proofs.YthidcmffnpnjjaaDoor
