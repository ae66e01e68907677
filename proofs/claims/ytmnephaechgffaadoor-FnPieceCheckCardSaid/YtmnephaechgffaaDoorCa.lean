/- The sum of a text, its steps. -/
import Derived.Test.YtmnephaechgffaaDoorLaw
import Derived.Laws.BitsAllLaws
import Derived.Lib.Hide
import Derived.Deep.Light
namespace Go.Proofs.YtmnephaechgffaaDoor
open Go.ChangeShapes Go.WideShapes Go.ChangeAt Go.RowKit
set_option linter.unusedVariables false
set_option linter.unusedSimpArgs false

def cpoly : Nat := 3988292384
def cbit (c : Nat) : Nat := if c % 2 = 1 then (c / 2) ^^^ cpoly else c / 2
def cbits : Nat → Nat → Nat
  | 0, c => c
  | k + 1, c => cbit (cbits k c)
theorem cbit_lt {c : Nat} (h : c < 4294967296) : cbit c < 4294967296 := by
  unfold cbit cpoly
  split
  · exact Nat.xor_lt_two_pow (n := 32) (by omega) (by omega)
  · omega
theorem cbits_lt {c : Nat} (h : c < 4294967296) : ∀ k, cbits k c < 4294967296
  | 0 => h
  | k + 1 => cbit_lt (cbits_lt h k)
theorem i64_xorC (a b : Nat) (ha : a < 4294967296) (hb : b < 4294967296) : bits .xor .i64 (a : Int) (b : Int) = ((a ^^^ b : Nat) : Int) := by
  have hx : a ^^^ b < 2 ^ 32 := Nat.xor_lt_two_pow (by omega) (by omega)
  have h1 : (BitVec.ofInt 64 (a : Int)).toNat = a := by
    rw [BitVec.ofInt_natCast, BitVec.toNat_ofNat]; exact Nat.mod_eq_of_lt (by omega)
  have h2 : (BitVec.ofInt 64 (b : Int)).toNat = b := by
    rw [BitVec.ofInt_natCast, BitVec.toNat_ofNat]; exact Nat.mod_eq_of_lt (by omega)
  show IntKind.i64.wrap ((BitVec.ofInt 64 (a : Int) ^^^ BitVec.ofInt 64 (b : Int)).toNat : Int) = _
  rw [BitVec.toNat_xor, h1, h2]
  exact IntWalk.i64_in _ (by omega)

set_option maxRecDepth 100000 in
set_option maxHeartbeats 2000000 in
theorem crcByte (c : Nat) (w : World) (hc : c < 4294967296) :
    Calls Tryd.prog 70 #[.int .u32 (c : Int)] w fun e w' => e = .returned (.int .u32 (cbits 8 c : Nat)) ∧ w = w' := by
  have HC := Lib.hid hc
  clear hc
  go_enter Tryd.func70, Tryd.ntmps70
  go_wp2
  go_loopw [0, 4] (fun v u wr => ∃ k : Nat, k ≤ 8 ∧ v = .int .u32 ((cbits k c : Nat) : Int) ∧ u = .int .i64 (k : Int) ∧ wr = w) (fun _ u _ => 8 - (intOf u).toNat)
  case atStart => exact ⟨0, by omega, rfl, rfl, rfl⟩
  case round =>
    obtain ⟨k, hk, rfl, rfl, rfl⟩ := hrel
    have hlt := cbits_lt HC.out k
    have HS := Lib.hid (show cbits (k + 1) c = cbit (cbits k c) from rfl)
    by_cases h8 : k < 8
    · obtain ⟨x, hx⟩ : ∃ X, X = cbits k c := ⟨_, rfl⟩
      rw [← hx] at hlt HS ⊢
      clear hx
      have i1 : (k : Int) < 8 := by omega
      have ea := u32_and_nat x 1 hlt (by decide)
      rw [show x &&& 1 = x % 2 from Nat.and_one_is_mod x] at ea
      have h2 : x / 2 < 4294967296 := by omega
      have ex := u32_xor_nat (x / 2) 3988292384 h2 (by decide)
      have ed : ((x : Int) / 2) = ((x / 2 : Nat) : Int) := by omega
      by_cases hp : x % 2 = 1
      · have HB := Lib.hid (show cbit x = (x / 2) ^^^ 3988292384 by unfold cbit cpoly; rw [if_pos hp])
        rw [hp] at ea
        have ea : bits .and .u32 (x : Int) 1 = 1 := ea
        have ex : bits .xor .u32 ((x : Int) / 2) 3988292384 = (((x / 2) ^^^ 3988292384 : Nat) : Int) := by rw [ed]; exact ex
        generalize hy : (x / 2) ^^^ 3988292384 = y at ex HB
        clear hy ed
        go_wp2
        exact ⟨⟨k + 1, by omega, by rw [HS.out, HB.out], by go_num, trivial⟩, by simp [intOf]; omega⟩
      · have HB := Lib.hid (show cbit x = x / 2 by unfold cbit; rw [if_neg hp])
        rw [show x % 2 = 0 by omega] at ea
        have ea : bits .and .u32 (x : Int) 1 = 0 := ea
        have HE := Lib.hid ed
        clear ex ed
        go_wp2
        exact ⟨⟨k + 1, by omega, by rw [HS.out, HB.out, HE.out], by go_num, trivial⟩, by simp [intOf]; omega⟩
    · obtain rfl : k = 8 := by omega
      go_wp2
      go_light
      go_ret
      exact ⟨rfl, rfl⟩

end Go.Proofs.YtmnephaechgffaaDoor
