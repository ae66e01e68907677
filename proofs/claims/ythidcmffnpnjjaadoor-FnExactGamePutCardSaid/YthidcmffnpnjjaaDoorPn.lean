/- The sums of a tree of pieces, both ways. -/
import Derived.Test.YthidcmffnpnjjaaDoorSa
import Derived.Test.YthidcmffnpnjjaaDoorCb
import Derived.Test.YthidcmffnpnjjaaDoorShelf
import Derived.Lib.SmallJoins
import Derived.Lib.ItoaMem
namespace Go.Proofs.YthidcmffnpnjjaaDoor
open Go.ChangeShapes Go.WideShapes Go.ChangeAt Go.RowKit
set_option linter.unusedVariables false
set_option linter.unusedSimpArgs false

/-- The library's table of powers lies there. -/
def Tab (w : World) : Prop := Lib.TabIs Tryd.prog w "internal/strconv.uint64pow10" .u64 Lib.pow10Tab
theorem gTab0 : (Tryd.prog.globalNamed "internal/strconv.uint64pow10").isSome = true := by kernel_rfl
theorem gTab : ∃ g, Tryd.prog.globalNamed "internal/strconv.uint64pow10" = some g := Option.isSome_iff_exists.1 gTab0
theorem Tab.below {w w' : World} (h : Tab w) (hb : Below w.heap.size w w') : Tab w' := by
  obtain ⟨g, hg⟩ := gTab
  exact Joins.tab_stays hg h hb (Nat.le_refl _)
theorem below_grow (w : World) (k : Nat) (os : Array Obj) : Below w.heap.size w (Sort.grow (w.drewN k) os) :=
  ⟨rfl, rfl, rfl, by simp [Sort.grow, World.drewN], fun i hi => by simp [Sort.grow, World.drewN, Array.getElem?_append, hi]⟩

/-- Any number of 64 bits. -/
def I64 (n : Int) : Prop := -9223372036854775808 ≤ n ∧ n ≤ 9223372036854775807
def decs (n : Int) : List UInt8 := Lib.itoa n
theorem decs_len (n : Int) (h : I64 n) : (decs n).length ≤ 21 := by
  unfold decs Lib.itoa
  split
  · rw [List.length_cons, Lib.decDigits_length]; have := Lib.nDigits_le20 n.natAbs (by have := h.1; have := h.2; omega); omega
  · rw [Lib.decDigits_length]; have := Lib.nDigits_le20 n.toNat (by have := h.1; have := h.2; omega); omega
theorem itoaP (n : Int) (w : World) (h : I64 n) (ht : Tab w) :
    Calls Tryd.prog 31 #[.int .i64 n] w fun e w' => e = .returned (bsV (decs n)) ∧ Below w.heap.size w w' := by
  refine (Tryd.strconv_Itoa n h.1 h.2 w ht).mono fun e w' ⟨he, k, os, hw⟩ => ⟨he, ?_⟩
  rw [hw]; exact below_grow w k os
set_option maxRecDepth 100000 in
theorem l1DecP (n : Int) (w : World) (h : I64 n) :
    Calls Tryd.prog 25 #[.int .i64 n] w fun e w' => e = .returned (bsV (decs n)) ∧ Below w.heap.size w w' := by
  by_cases hm : n = -9223372036854775808
  · subst hm
    have HE := Lib.hid (show decs (-9223372036854775808) = [45, 57, 50, 50, 51, 51, 55, 50, 48, 51, 54, 56, 53, 52, 55, 55, 53, 56, 48, 56] by
      unfold decs
      rw [itoa_neg' (by omega)]
      simp [dec_big, dec_small])
    go_enter Tryd.func25, Tryd.ntmps25
    go_wp2
    go_ret
    exact ⟨by rw [HE.out]; rfl, Below.refl _ _⟩
  · exact l1Dec n w (by have := h.1; omega) h.2

def leafT (n : Int) (s : List UInt8) : List UInt8 := [108, 101, 97, 102, 32] ++ decs n ++ [32] ++ s
def nodeT (a b : Int) : List UInt8 := [110, 111, 100, 101, 32] ++ decs a ++ [32] ++ decs b
def leafN (n : Int) (s : List UInt8) : Int := (crcN (leafT n s) : Nat)
def nodeN (a b : Int) : Int := (crcN (nodeT a b) : Nat)
theorem leafN_in (n : Int) (s : List UInt8) : 0 ≤ leafN n s ∧ leafN n s < 4294967296 := by
  have : crcN (leafT n s) < 4294967296 := Nat.xor_lt_two_pow (n := 32) (crcF_lt _ _ (by omega)) (by omega)
  unfold leafN; omega
theorem nodeN_in (a b : Int) : 0 ≤ nodeN a b ∧ nodeN a b < 4294967296 := by
  have : crcN (nodeT a b) < 4294967296 := Nat.xor_lt_two_pow (n := 32) (crcF_lt _ _ (by omega)) (by omega)
  unfold nodeN; omega

end Go.Proofs.YthidcmffnpnjjaaDoor
