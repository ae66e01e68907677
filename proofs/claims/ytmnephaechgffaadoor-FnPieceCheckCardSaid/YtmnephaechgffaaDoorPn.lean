/- The sums of a tree of pieces, both ways. -/
import Derived.Test.YtmnephaechgffaaDoorSa
import Derived.Test.YtmnephaechgffaaDoorCb
import Derived.Test.YtmnephaechgffaaDoorShelf
import Derived.Lib.SmallJoins
import Derived.Lib.ItoaMem
namespace Go.Proofs.YtmnephaechgffaaDoor
open Go.ChangeShapes Go.WideShapes Go.ChangeAt Go.RowKit
set_option linter.unusedVariables false
set_option linter.unusedSimpArgs false

/-- The library's table of powers lies there. -/
def Tab (w : World) : Prop := Lib.TabIs Tryd.prog w "internal/strconv.uint64pow10" .u64 Lib.pow10Tab
theorem gTab0 : (Tryd.prog.globalNamed "internal/strconv.uint64pow10").isSome = true := by kernel_rfl
theorem gTab : ∃ g, Tryd.prog.globalNamed "internal/strconv.uint64pow10" = some g := Option.isSome_iff_exists.1 gTab0
theorem Tab.below {w w' : World} (h : Tab w) (hb : Below w.heap.size w w') : Tab w' := by
  obtain ⟨g, hg⟩ := gTab
  exact Joins.tab_stays hg h hb (Nat.le_refl _)
theorem below_grow (w : World) (k : Nat) (os : Array Obj) : Below w.heap.size w (Sort.grow (w.drewN k) os) :=
  ⟨rfl, rfl, rfl, by simp [Sort.grow, World.drewN], fun i hi => by simp [Sort.grow, World.drewN, Array.getElem?_append, hi]⟩

/-- Any number of 64 bits. -/
def I64 (n : Int) : Prop := -9223372036854775808 ≤ n ∧ n ≤ 9223372036854775807
def decs (n : Int) : List UInt8 := Lib.itoa n
theorem decs_len (n : Int) (h : I64 n) : (decs n).length ≤ 21 := by
  unfold decs Lib.itoa
  split
  · rw [List.length_cons, Lib.decDigits_length]; have := Lib.nDigits_le20 n.natAbs (by have := h.1; have := h.2; omega); omega
  · rw [Lib.decDigits_length]; have := Lib.nDigits_le20 n.toNat (by have := h.1; have := h.2; omega); omega
theorem itoaP (n : Int) (w : World) (h : I64 n) (ht : Tab w) :
    Calls Tryd.prog 63 #[.int .i64 n] w fun e w' => e = .returned (bsV (decs n)) ∧ Below w.heap.size w w' := by
  refine (Tryd.strconv_Itoa n h.1 h.2 w ht).mono fun e w' ⟨he, k, os, hw⟩ => ⟨he, ?_⟩
  rw [hw]; exact below_grow w k os
set_option maxRecDepth 100000 in
theorem l1DecP (n : Int) (w : World) (h : I64 n) :
    Calls Tryd.prog 69 #[.int .i64 n] w fun e w' => e = .returned (bsV (decs n)) ∧ Below w.heap.size w w' := by
  by_cases hm : n = -9223372036854775808
  · subst hm
    have HE := Lib.hid (show decs (-9223372036854775808) = [45, 57, 50, 50, 51, 51, 55, 50, 48, 51, 54, 56, 53, 52, 55, 55, 53, 56, 48, 56] by
      unfold decs
      rw [itoa_neg' (by omega)]
      simp [dec_big, dec_small])
    go_enter Tryd.func69, Tryd.ntmps69
    go_wp2
    go_ret
    exact ⟨by rw [HE.out]; rfl, Below.refl _ _⟩
  · exact l1Dec n w (by have := h.1; omega) h.2

def leafT (n : Int) (s : List UInt8) : List UInt8 := [108, 101, 97, 102, 32] ++ decs n ++ [32] ++ s
def nodeT (a b : Int) : List UInt8 := [110, 111, 100, 101, 32] ++ decs a ++ [32] ++ decs b
def leafN (n : Int) (s : List UInt8) : Int := (crcN (leafT n s) : Nat)
def nodeN (a b : Int) : Int := (crcN (nodeT a b) : Nat)
theorem leafN_in (n : Int) (s : List UInt8) : 0 ≤ leafN n s ∧ leafN n s < 4294967296 := by
  have : crcN (leafT n s) < 4294967296 := Nat.xor_lt_two_pow (n := 32) (crcF_lt _ _ (by omega)) (by omega)
  unfold leafN; omega
theorem nodeN_in (a b : Int) : 0 ≤ nodeN a b ∧ nodeN a b < 4294967296 := by
  have : crcN (nodeT a b) < 4294967296 := Nat.xor_lt_two_pow (n := 32) (crcF_lt _ _ (by omega)) (by omega)
  unfold nodeN; omega

set_option maxRecDepth 100000 in
set_option maxHeartbeats 2000000 in
theorem leafI (n : Int) (s : List UInt8) (w : World) (h : I64 n) (hs : s.length ≤ 1048000) (ht : Tab w) :
    Calls Tryd.prog 40 #[.int .i64 n, bsV s] w fun e w' => e = .returned (.int .i64 (leafN n s)) ∧ Below w.heap.size w w' := by
  have HL := decs_len n h
  have A1 := add_bs [108, 101, 97, 102, 32] (decs n) (by simp; omega)
  have A2 := add_bs ([108, 101, 97, 102, 32] ++ decs n) [32] (by simp; omega)
  have A3 := add_bs ([108, 101, 97, 102, 32] ++ decs n ++ [32]) s (by simp; omega)
  have HS : (⟨(leafT n s).toArray⟩ : ByteArray).size ≤ 1048577 := by show (leafT n s).toArray.size ≤ _; simp [leafT]; omega
  have HK := Lib.hid HS
  clear HS
  go_enter Tryd.func40, Tryd.ntmps40
  go_wp2_with (fail)
  refine (itoaP n _ h ht).mono ?_
  rintro e w1 ⟨rfl, hb⟩
  go_wp2_with (fail)
  refine (implCrc ⟨(leafT n s).toArray⟩ _ HK.out).mono ?_
  rintro e w2 ⟨rfl, rfl⟩
  go_wp2
  go_light
  go_ret
  exact ⟨rfl, hb⟩
set_option maxRecDepth 100000 in
set_option maxHeartbeats 2000000 in
theorem nodeI (a b : Int) (w : World) (ha : I64 a) (hb : I64 b) (ht : Tab w) :
    Calls Tryd.prog 42 #[.int .i64 a, .int .i64 b] w fun e w' => e = .returned (.int .i64 (nodeN a b)) ∧ Below w.heap.size w w' := by
  have HL := decs_len a ha
  have HM := decs_len b hb
  have A1 := add_bs [110, 111, 100, 101, 32] (decs a) (by simp; omega)
  have A2 := add_bs ([110, 111, 100, 101, 32] ++ decs a) [32] (by simp; omega)
  have A3 := add_bs ([110, 111, 100, 101, 32] ++ decs a ++ [32]) (decs b) (by simp; omega)
  have HS : (⟨(nodeT a b).toArray⟩ : ByteArray).size ≤ 1048577 := by show (nodeT a b).toArray.size ≤ _; simp [nodeT]; omega
  have HK := Lib.hid HS
  clear HS
  go_enter Tryd.func42, Tryd.ntmps42
  go_wp2_with (fail)
  refine (itoaP a _ ha ht).mono ?_
  rintro e w1 ⟨rfl, hb1⟩
  go_wp2_with (fail)
  refine (itoaP b _ hb (ht.below hb1)).mono ?_
  rintro e w2 ⟨rfl, hb2⟩
  go_wp2_with (fail)
  refine (implCrc ⟨(nodeT a b).toArray⟩ _ HK.out).mono ?_
  rintro e w3 ⟨rfl, rfl⟩
  go_wp2
  go_light
  go_ret
  exact ⟨rfl, Below.and hb1 hb2⟩
set_option maxRecDepth 100000 in
set_option maxHeartbeats 2000000 in
theorem leafS (n : Int) (s : List UInt8) (w : World) (h : I64 n) (hs : s.length ≤ 1048000) :
    Calls Tryd.prog 60 #[.int .i64 n, bsV s] w fun e w' => e = .returned (.int .i64 (leafN n s)) ∧ Below w.heap.size w w' := by
  have HL := decs_len n h
  have A1 := add_bs [108, 101, 97, 102, 32] (decs n) (by simp; omega)
  have A2 := add_bs ([108, 101, 97, 102, 32] ++ decs n) [32] (by simp; omega)
  have A3 := add_bs ([108, 101, 97, 102, 32] ++ decs n ++ [32]) s (by simp; omega)
  have HS : (⟨(leafT n s).toArray⟩ : ByteArray).size ≤ 1048577 := by show (leafT n s).toArray.size ≤ _; simp [leafT]; omega
  have HK := Lib.hid HS
  clear HS
  go_enter Tryd.func60, Tryd.ntmps60
  go_wp2_with (fail)
  refine (l1DecP n _ h).mono ?_
  rintro e w1 ⟨rfl, hb⟩
  go_wp2_with (fail)
  refine (specL7 ⟨(leafT n s).toArray⟩ _ HK.out).mono ?_
  rintro e w2 ⟨rfl, rfl⟩
  go_wp2
  go_light
  go_ret
  exact ⟨rfl, hb⟩
set_option maxRecDepth 100000 in
set_option maxHeartbeats 2000000 in
theorem nodeS (a b : Int) (w : World) (ha : I64 a) (hb : I64 b) :
    Calls Tryd.prog 61 #[.int .i64 a, .int .i64 b] w fun e w' => e = .returned (.int .i64 (nodeN a b)) ∧ Below w.heap.size w w' := by
  have HL := decs_len a ha
  have HM := decs_len b hb
  have A1 := add_bs [110, 111, 100, 101, 32] (decs a) (by simp; omega)
  have A2 := add_bs ([110, 111, 100, 101, 32] ++ decs a) [32] (by simp; omega)
  have A3 := add_bs ([110, 111, 100, 101, 32] ++ decs a ++ [32]) (decs b) (by simp; omega)
  have HS : (⟨(nodeT a b).toArray⟩ : ByteArray).size ≤ 1048577 := by show (nodeT a b).toArray.size ≤ _; simp [nodeT]; omega
  have HK := Lib.hid HS
  clear HS
  go_enter Tryd.func61, Tryd.ntmps61
  go_wp2_with (fail)
  refine (l1DecP a _ ha).mono ?_
  rintro e w1 ⟨rfl, hb1⟩
  go_wp2_with (fail)
  refine (l1DecP b _ hb).mono ?_
  rintro e w2 ⟨rfl, hb2⟩
  go_wp2_with (fail)
  refine (specL7 ⟨(nodeT a b).toArray⟩ _ HK.out).mono ?_
  rintro e w3 ⟨rfl, rfl⟩
  go_wp2
  go_light
  go_ret
  exact ⟨rfl, Below.and hb1 hb2⟩

end Go.Proofs.YtmnephaechgffaaDoor
