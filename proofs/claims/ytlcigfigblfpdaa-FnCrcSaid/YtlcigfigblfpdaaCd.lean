/- One bit turned, another sum. -/
import Derived.Test.YtlcigfigblfpdaaCb
namespace Go.Proofs.Ytlcigfigblfpdaa
open Go.ChangeShapes Go.WideShapes Go.ChangeAt Go.RowKit
set_option linter.unusedVariables false
set_option linter.unusedSimpArgs false

theorem xor_cancelR {a b c : Nat} (h : a ^^^ c = b ^^^ c) : a = b := by
  have := congrArg (· ^^^ c) h
  simpa [Nat.xor_assoc] using this
theorem xor_cancelL {a b c : Nat} (h : c ^^^ a = c ^^^ b) : a = b := by
  rw [Nat.xor_comm c a, Nat.xor_comm c b] at h
  exact xor_cancelR h
theorem cbit_inj {a b : Nat} (ha : a < 4294967296) (hb : b < 4294967296) (h : cbit a = cbit b) : a = b := by
  have top : ∀ x : Nat, x < 2147483648 → x.testBit 31 = false := fun x hx => Nat.testBit_lt_two_pow (show x < 2 ^ 31 by omega)
  have pt : cpoly.testBit 31 = true := by decide
  have mix : ∀ x y : Nat, x < 2147483648 → y < 2147483648 → x ^^^ cpoly ≠ y := fun x y hx hy e => by
    have h1 := congrArg (fun z => z.testBit 31) e
    simp only [Nat.testBit_xor, top x hx, top y hy, pt] at h1
    cases h1
  unfold cbit at h
  by_cases p : a % 2 = 1
  · by_cases q : b % 2 = 1
    · rw [if_pos p, if_pos q] at h
      have := xor_cancelR h
      omega
    · rw [if_pos p, if_neg q] at h
      exact absurd h (mix _ _ (by omega) (by omega))
  · by_cases q : b % 2 = 1
    · rw [if_neg p, if_pos q] at h
      exact absurd h.symm (mix _ _ (by omega) (by omega))
    · rw [if_neg p, if_neg q] at h
      omega
theorem cbits_inj {a b : Nat} (ha : a < 4294967296) (hb : b < 4294967296) : ∀ k, cbits k a = cbits k b → a = b
  | 0, h => h
  | k + 1, h => cbits_inj ha hb k (cbit_inj (cbits_lt ha k) (cbits_lt hb k) h)
theorem xorB_lt {a : Nat} (ha : a < 4294967296) (b : UInt8) : a ^^^ b.toNat < 4294967296 := Nat.xor_lt_two_pow (n := 32) ha (by have := b.toNat_lt; omega)
theorem crcF_inj : ∀ (l : List UInt8) {a b : Nat}, a < 4294967296 → b < 4294967296 → crcF l a = crcF l b → a = b
  | [], _, _, _, _, h => h
  | x :: l, a, b, ha, hb, h => xor_cancelR (cbits_inj (xorB_lt ha x) (xorB_lt hb x) 8 (crcF_inj l (cbits_lt (xorB_lt ha x) 8) (cbits_lt (xorB_lt hb x) 8) h))
theorem crcF_app (l m : List UInt8) (c : Nat) : crcF (l ++ m) c = crcF m (crcF l c) := by
  unfold crcF
  rw [List.foldl_append]
theorem crcN_turn (l m : List UInt8) (x y : UInt8) (h : x ≠ y) : crcN (l ++ x :: m) ≠ crcN (l ++ y :: m) := fun e => by
  have h1 := xor_cancelR (c := 4294967295) (show crcF (l ++ x :: m) 4294967295 ^^^ 4294967295 = crcF (l ++ y :: m) 4294967295 ^^^ 4294967295 from e)
  rw [crcF_app, crcF_app] at h1
  have hl := crcF_lt l 4294967295 (by decide)
  have h2 := crcF_inj m (cbits_lt (xorB_lt hl x) 8) (cbits_lt (xorB_lt hl y) 8) h1
  have h3 := xor_cancelL (cbits_inj (xorB_lt hl x) (xorB_lt hl y) 8 h2)
  exact h (UInt8.toNat_inj.1 h3)
theorem crcN_set (l : List UInt8) (k : Nat) (hk : k < l.length) (y : UInt8) (h : l[k] ≠ y) : crcN (l.set k y) ≠ crcN l := by
  have e1 : l = l.take k ++ l[k] :: l.drop (k + 1) := by rw [List.getElem_cons_drop, List.take_append_drop]
  have e2 : l.set k y = l.take k ++ y :: l.drop (k + 1) := by
    rw [List.set_eq_take_append_cons_drop, if_pos hk]
  rw [e2]
  conv => rhs; rw [e1]
  exact (crcN_turn _ _ _ _ h).symm
theorem crcN_nine : crcN [49, 50, 51, 52, 53, 54, 55, 56, 57] = 3421780262 := by kernel_rfl
theorem crcN_nil : crcN [] = 0 := by decide

end Go.Proofs.Ytlcigfigblfpdaa
