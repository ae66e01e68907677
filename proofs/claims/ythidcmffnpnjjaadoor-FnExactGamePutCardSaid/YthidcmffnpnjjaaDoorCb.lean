/- The sum of a text, both ways. -/
import Derived.Test.YthidcmffnpnjjaaDoorCa
namespace Go.Proofs.YthidcmffnpnjjaaDoor
open Go.ChangeShapes Go.WideShapes Go.ChangeAt Go.RowKit
set_option linter.unusedVariables false
set_option linter.unusedSimpArgs false

def crcF (l : List UInt8) (c : Nat) : Nat := l.foldl (fun c b => cbits 8 (c ^^^ b.toNat)) c
def crcN (l : List UInt8) : Nat := crcF l 4294967295 ^^^ 4294967295
theorem crcF_lt : ∀ (l : List UInt8) (c : Nat), c < 4294967296 → crcF l c < 4294967296
  | [], _, h => h
  | b :: l, c, h => crcF_lt l _ (cbits_lt (Nat.xor_lt_two_pow (n := 32) h (by have := b.toNat_lt; omega)) 8)
theorem crcF_snoc (l : List UInt8) (b : UInt8) (c : Nat) : crcF (l ++ [b]) c = cbits 8 (crcF l c ^^^ b.toNat) := by
  unfold crcF
  rw [List.foldl_append]
  rfl
theorem cbit_at (c k : Nat) : cbits (k + 1) c = cbit (cbits k c) := rfl
theorem take_snocB (s : ByteArray) (k : Nat) (h : k < s.size) : s.data.toList.take (k + 1) = s.data.toList.take k ++ [s[k]'h] := by
  have hl : k < s.data.toList.length := by simpa using h
  rw [List.take_succ_eq_append_getElem hl]
  rfl
theorem take_allB (s : ByteArray) : s.data.toList.take s.size = s.data.toList := List.take_of_length_le (by simp)

end Go.Proofs.YthidcmffnpnjjaaDoor
