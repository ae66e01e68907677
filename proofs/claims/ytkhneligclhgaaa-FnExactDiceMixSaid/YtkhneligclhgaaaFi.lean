/- The exact law of DiceMix, walked. -/
import Derived.Test.YtkhneligclhgaaaFh
namespace Go.Proofs.Ytkhneligclhgaaa
open Go.ChangeShapes Go.WideShapes Go.ChangeAt Go.RowKit
set_option linter.unusedVariables false
set_option linter.unusedSimpArgs false

set_option maxRecDepth 100000 in
set_option maxHeartbeats 4000000 in
theorem exactDiceMix (A : Option Addr) (a : Nat) (L : List Int) (w : World) (mL : L.length ≤ maxLen) (rL : InI w A L) :
    Calls Try.prog 10 #[.slice A L.length a] w fun e w' => e = .returned (.bool true) ∧ Below w.heap.size w w' := by
  obtain ⟨x, hx⟩ : ∃ x, mixI L = x := ⟨_, rfl⟩
  have nb : (x != x) = false := by simp
  have HX := Lib.hid hx
  clear hx
  have HL := Lib.hid rL
  have Z : Hid (Below w.heap.size w w) := Below.refl _ _
  clear rL
  go_enter Try.func10, Try.ntmps10
  by_cases hbig : (1048576 : Int) < L.length
  · go_wp2
    go_light
    go_ret
    exact ⟨rfl, Below.refl _ _⟩
  have hL : L.length ≤ 1048576 := by omega
  go_wp2_with (fail)
  refine (toIntS A a L _ hL (HL.out.belD Z.out)).mono ?_
  rintro e w1 ⟨g1, rfl, hgq, o1, hb⟩
  clear hgq
  replace Z := Lib.hid (Below.and Z.out hb)
  have OX := Lib.hid (OwD.bd (show OwD w1 w.heap.size (some ⟨g1, 0, none⟩) L.length L from o1))
  clear o1 hb
  go_wp2_with (fail)
  refine (specMix _ _ L _ (by omega) OX.out.rdI).mono ?_
  rintro e w2 ⟨rfl, hb⟩
  rw [HX.out]
  replace Z := Lib.hid (Below.and Z.out hb)
  clear hb OX
  go_wp2_with (fail)
  refine (toIntS A a L _ hL (HL.out.belD Z.out)).mono ?_
  rintro e w3 ⟨g2, rfl, hgq, o1, hb⟩
  clear hgq
  replace Z := Lib.hid (Below.and Z.out hb)
  have OX := Lib.hid (OwD.bd (show OwD w3 w2.heap.size (some ⟨g2, 0, none⟩) L.length L from o1))
  clear o1 hb
  go_wp2_with (fail)
  refine (implMix _ _ L _ (by omega) OX.out.rdI).mono ?_
  rintro e w4 ⟨rfl, hb⟩
  rw [HX.out]
  replace OX := Lib.hid (OX.out.below hb)
  replace Z := Lib.hid (Below.and Z.out hb)
  clear hb
  go_wp2_with (fail)
  refine (toIntS A a L _ hL (HL.out.belD Z.out)).mono ?_
  rintro e w5 ⟨g3, rfl, hgq, o1, hb⟩
  clear hgq
  replace OX := Lib.hid (OX.out.below hb)
  replace Z := Lib.hid (Below.and Z.out hb)
  have OY := Lib.hid (OwD.bd (show OwD w5 w4.heap.size (some ⟨g3, 0, none⟩) L.length L from o1))
  clear o1 hb
  go_wp2_with (fail)
  refine (eqIntS _ _ _ _ _ _ _ (by unfold maxLen; omega) (by unfold maxLen; omega) OX.out.rdI OY.out.rdI).mono ?_
  rintro e w6 ⟨rfl, hm⟩
  have hb := bel_drewN hm
  replace Z := Lib.hid (Below.and Z.out hb)
  rw [decide_eq_true rfl]
  clear hm hb
  go_wp2
  go_light
  go_ret
  exact ⟨rfl, Z.out⟩

end Go.Proofs.Ytkhneligclhgaaa
