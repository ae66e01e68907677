/- The exact law of DiceBack, walked. -/
import Derived.Test.YtkhneligclhgaaaFh
namespace Go.Proofs.Ytkhneligclhgaaa
open Go.ChangeShapes Go.WideShapes Go.ChangeAt Go.RowKit
set_option linter.unusedVariables false
set_option linter.unusedSimpArgs false

set_option maxRecDepth 100000 in
set_option maxHeartbeats 8000000 in
theorem exactDiceBack (A : Option Addr) (a : Nat) (L : List Int) (s : Int) (w : World) (mL : L.length ≤ maxLen) (rL : InI w A L) :
    Calls Try.prog 12 #[.slice A L.length a, .int .i64 s] w fun e w' => e = .returned (.bool true) ∧ Below w.heap.size w w' := by
  have HL := Lib.hid rL
  have Z : Hid (Below w.heap.size w w) := Below.refl _ _
  clear rL
  go_enter Try.func12, Try.ntmps12
  by_cases hbig : (1048576 : Int) < L.length
  · go_wp2
    go_light
    go_ret
    exact ⟨rfl, Below.refl _ _⟩
  have hL : L.length ≤ 1048576 := by omega
  obtain ⟨R, hR⟩ : ∃ R, backI L s = R := ⟨_, rfl⟩
  have hRL : R.length ≤ L.length := by rw [← hR]; exact backI_le L s
  have HS : Hid (∀ (wx : World) (g : Nat), RdI wx (some ⟨g, 0, none⟩) L → Calls Try.prog 28 #[.slice (some ⟨g, 0, none⟩) L.length L.length, .int .i64 s] wx (DoS R wx)) := fun wx g h => by rw [← hR]; exact specBack _ _ L s wx hL (fun e => by cases e) h
  have HI : Hid (∀ (wx : World) (g : Nat), RdI wx (some ⟨g, 0, none⟩) L → Calls Try.prog 26 #[.slice (some ⟨g, 0, none⟩) L.length L.length, .int .i64 s] wx (DoS R wx)) := fun wx g h => by rw [← hR]; exact implBack _ _ L s wx hL (fun e => by cases e) h
  clear hR hbig
  go_wp2_with (fail)
  refine (toIntS A a L _ hL (HL.out.belD Z.out)).mono ?_
  rintro e w1 ⟨g1, rfl, hgq, o1, hb⟩
  clear hgq
  replace Z := Lib.hid (Below.and Z.out hb)
  have OA := Lib.hid (OwD.bd (show OwD w1 w.heap.size (some ⟨g1, 0, none⟩) L.length L from o1))
  clear o1 hb
  go_wp2_with (fail)
  refine (HS.out _ _ OA.out.rdI).mono ?_
  rintro e w2 ⟨AW, aW, rfl, o2, hb⟩
  have OW := Lib.hid (OwD.bd o2)
  replace Z := Lib.hid (Below.and Z.out hb)
  clear o2 hb
  clear OA
  have ge2 := Lib.hid (show w.heap.size ≤ w2.heap.size from Z.out.size)
  go_wp2_with (fail)
  refine (toIntS A a L _ hL (HL.out.belD Z.out)).mono ?_
  rintro e w3 ⟨g2, rfl, hgq, o1, hb⟩
  clear hgq
  replace OW := Lib.hid (OW.out.below hb)
  replace Z := Lib.hid (Below.and Z.out hb)
  have OX := Lib.hid (OwD.bd (show OwD w3 w2.heap.size (some ⟨g2, 0, none⟩) L.length L from o1))
  have ge23 := Lib.hid (show w2.heap.size ≤ w3.heap.size from hb.size)
  have ge3 := Lib.hid (show w.heap.size ≤ w3.heap.size from Z.out.size)
  clear o1 hb
  go_wp2_with (fail)
  refine (HI.out _ _ OX.out.rdI).mono ?_
  rintro e w4 ⟨AG, aG, rfl, o2, hb⟩
  have OG := Lib.hid (OwD.bd o2)
  replace OW := Lib.hid (OW.out.below hb)
  replace OX := Lib.hid (OX.out.below hb)
  replace Z := Lib.hid (Below.and Z.out hb)
  have ge34 := Lib.hid (show w3.heap.size ≤ w4.heap.size from hb.size)
  clear o2 hb
  go_wp2_with (fail)
  refine (eqIntS _ _ _ _ _ _ _ (by unfold maxLen; omega) (by unfold maxLen; omega) OG.out.rdI OW.out.rdI).mono ?_
  rintro e w5 ⟨rfl, hm⟩
  have hb := bel_drewN hm
  replace OW := Lib.hid (OW.out.below hb)
  replace OX := Lib.hid (OX.out.below hb)
  replace OG := Lib.hid (OG.out.below hb)
  replace Z := Lib.hid (Below.and Z.out hb)
  rw [decide_eq_true rfl]
  clear hm hb
  go_wp2_with (fail)
  refine (toIntS A a L _ hL (HL.out.belD Z.out)).mono ?_
  rintro e w6 ⟨g3, rfl, hgq, o1, hb⟩
  clear hgq
  replace OW := Lib.hid (OW.out.below hb)
  replace OX := Lib.hid (OX.out.below hb)
  replace OG := Lib.hid (OG.out.below hb)
  replace Z := Lib.hid (Below.and Z.out hb)
  have OY := Lib.hid (OwD.bd (show OwD w6 w5.heap.size (some ⟨g3, 0, none⟩) L.length L from o1))
  clear o1 hb
  go_wp2_with (fail)
  refine (eqIntS _ _ _ _ _ _ _ (by unfold maxLen; omega) (by unfold maxLen; omega) OX.out.rdI OY.out.rdI).mono ?_
  rintro e w7 ⟨rfl, hm⟩
  have hb := bel_drewN hm
  replace OW := Lib.hid (OW.out.below hb)
  replace OX := Lib.hid (OX.out.below hb)
  replace OG := Lib.hid (OG.out.below hb)
  replace Z := Lib.hid (Below.and Z.out hb)
  rw [decide_eq_true rfl]
  clear hm hb
  clear OY
  have ngL : decide ((1 : Int) + (L.length : Int) < 0) = false := by simp; omega
  have nnL : ((1 : Int) + (L.length : Int) != 1 + (L.length : Int)) = false := by simp
  have ngR : decide ((1 : Int) + (R.length : Int) < 0) = false := by simp; omega
  have nnR : ((1 : Int) + (R.length : Int) != 1 + (R.length : Int)) = false := by simp
  go_wp2_with (fail)
  refine (markIntS _ _ _ L.length _ 1 _ (by omega) (by omega) (by unfold maxLen; omega) (show World.ownsRow _ _ _ _ _ _ _ from OX.out.own)).mono ?_
  rintro e w8 ⟨rfl, hm, hg⟩
  have hbk := OX.out.bk
  replace OW := Lib.hid (OW.out.grown hg (fun k hk => by have h1 := hbk k hk; have := ge34.out; have := ge23.out; omega))
  replace OG := Lib.hid (OG.out.grown hg (fun k hk => by have h1 := hbk k hk; have := ge34.out; have := ge23.out; omega))
  replace Z := Lib.hid (Z.out.grown hg Z.out.size (fun k hk => by have h1 := hbk k hk; have := ge2.out; omega))
  have MOX := Lib.hid (marks_rd hm)
  clear hm hg hbk OX
  go_wp2_with (fail)
  refine (eqIntS _ _ _ _ _ _ _ (by unfold maxLen; omega) (by unfold maxLen; omega) OG.out.rdI OW.out.rdI).mono ?_
  rintro e w9 ⟨rfl, hm⟩
  have hb := bel_drewN hm
  replace OW := Lib.hid (OW.out.below hb)
  replace OG := Lib.hid (OG.out.below hb)
  replace Z := Lib.hid (Below.and Z.out hb)
  rw [decide_eq_true rfl]
  clear hm hb
  go_wp2_with (fail)
  refine (markIntS _ _ _ R.length _ 1 _ (by omega) (by omega) (by unfold maxLen; omega) (show World.ownsRow _ _ _ _ _ _ _ from OG.out.own)).mono ?_
  rintro e wA ⟨rfl, hm, hg⟩
  have hbk := OG.out.bk
  replace OW := Lib.hid (OW.out.grown hg (fun k hk => by have h1 := hbk k hk; have := ge34.out; have := ge23.out; omega))
  replace Z := Lib.hid (Z.out.grown hg Z.out.size (fun k hk => by have h1 := hbk k hk; have := ge3.out; omega))
  have MOG := Lib.hid (marks_rd hm)
  clear hm hg hbk OG
  go_wp2_with (fail)
  refine (heldIntS _ _ R.length 1 _ (by omega) (by omega) (by unfold maxLen; omega) MOG.out).mono ?_
  rintro e wB ⟨rfl, rfl⟩
  go_wp2_with (fail)
  refine (toIntS A a L _ hL (HL.out.belD Z.out)).mono ?_
  rintro e wC ⟨g4, rfl, hgq, o1, hb⟩
  clear hgq
  replace OW := Lib.hid (OW.out.below hb)
  replace Z := Lib.hid (Below.and Z.out hb)
  have OA := Lib.hid (OwD.bd (show OwD wC wB.heap.size (some ⟨g4, 0, none⟩) L.length L from o1))
  replace MOG := Lib.hid (MOG.out.below hb)
  clear o1 hb
  go_wp2_with (fail)
  refine (HI.out _ _ OA.out.rdI).mono ?_
  rintro e wD ⟨AH, aH, rfl, o2, hb⟩
  have OH := Lib.hid (OwD.bd o2)
  replace OW := Lib.hid (OW.out.below hb)
  replace Z := Lib.hid (Below.and Z.out hb)
  replace MOG := Lib.hid (MOG.out.below hb)
  clear o2 hb
  go_wp2_with (fail)
  refine (eqIntS _ _ _ _ _ _ _ (by unfold maxLen; omega) (by unfold maxLen; omega) OH.out.rdI OW.out.rdI).mono ?_
  rintro e wE ⟨rfl, hm⟩
  have hb := bel_drewN hm
  replace OW := Lib.hid (OW.out.below hb)
  replace OH := Lib.hid (OH.out.below hb)
  replace Z := Lib.hid (Below.and Z.out hb)
  rw [decide_eq_true rfl]
  replace MOG := Lib.hid (MOG.out.below hb)
  clear hm hb
  go_wp2_with (fail)
  refine (heldIntS _ _ R.length 1 _ (by omega) (by omega) (by unfold maxLen; omega) MOG.out).mono ?_
  rintro e wF ⟨rfl, rfl⟩
  go_wp2
  go_light
  go_ret
  exact ⟨rfl, Z.out⟩

end Go.Proofs.Ytkhneligclhgaaa
