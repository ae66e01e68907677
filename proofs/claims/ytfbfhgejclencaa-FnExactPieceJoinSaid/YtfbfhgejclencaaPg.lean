/- The exact law of PieceJoin, walked. -/
import Derived.Test.YtfbfhgejclencaaPf
import Derived.Test.YtfbfhgejclencaaPb
namespace Go.Proofs.Ytfbfhgejclencaa
open Go.ChangeShapes Go.WideShapes Go.ChangeAt Go.RowKit
set_option linter.unusedVariables false
set_option linter.unusedSimpArgs false

set_option maxRecDepth 100000 in
set_option maxHeartbeats 4000000 in
theorem exactPieceJoin (D : List ByteArray) (A : Option Addr) (a : Nat) (w : World) (hD : D.length ≤ maxLen) (hs : ∀ x ∈ D, x.size ≤ maxLen) (hr : Rd 1 cS w A D) :
    Calls Try.prog 4 #[.slice A D.length a] w fun e w' => e = .returned (.bool true) ∧ Below w.heap.size w w' := by
  have HR := Lib.hid hr
  have HS := Lib.hid hs
  clear hr hs
  go_enter Try.func4, Try.ntmps4
  go_wp2_with (fail)
  refine (szStringS A a D _ hD HS.out HR.out).mono ?_
  rintro e w1 ⟨v, rfl, hv, rfl⟩
  by_cases hv0 : v < 0
  · go_wp2
    go_light
    go_ret
    exact ⟨rfl, Below.refl _ _⟩
  have hl : D.length ≤ 1048576 := by omega
  clear hv hD
  obtain ⟨⟨y, u⟩, hy⟩ : ∃ Y, Y = joinR D := ⟨_, rfl⟩
  have HY := Lib.hid hy
  clear hy
  go_wp2_with (fail)
  refine (toStringS A a D _ hl HR.out).mono ?_
  rintro e w2 ⟨g1, rfl, o1, hb⟩
  have O1 := Lib.hid o1.rd
  have Z := Lib.hid hb
  clear o1 hb
  go_wp2_with (fail)
  refine (specPieceJoin D _ _ _ hl (Nat.le_refl _) O1.out).mono ?_
  rw [← HY.out]
  rintro e w3 ⟨rfl, hb⟩
  replace Z := Lib.hid (Below.and Z.out hb)
  clear hb O1
  go_wp2_with (fail)
  refine (toStringS A a D _ hl (Rd.below HR.out Z.out)).mono ?_
  rintro e w4 ⟨g2, rfl, o2, hb⟩
  have O2 := Lib.hid o2.rd
  replace Z := Lib.hid (Below.and Z.out hb)
  clear o2 hb
  go_wp2_with (fail)
  refine (implPieceJoin D _ _ _ hl (Nat.le_refl _) O2.out).mono ?_
  rw [← HY.out]
  rintro e w5 ⟨rfl, hb⟩
  replace O2 := Lib.hid (Rd.below O2.out hb)
  replace Z := Lib.hid (Below.and Z.out hb)
  clear hb
  have nu : (u != u) = false := by simp
  go_wp2_with (fail)
  refine (toStringS A a D _ hl (Rd.below HR.out Z.out)).mono ?_
  rintro e w6 ⟨g3, rfl, o3, hb⟩
  have O3 := Lib.hid o3.rd
  replace O2 := Lib.hid (Rd.below O2.out hb)
  replace Z := Lib.hid (Below.and Z.out hb)
  clear o3 hb
  go_wp2_with (fail)
  refine (eqStringS_rd _ _ _ _ D _ hl O2.out O3.out).mono ?_
  rintro e w7 ⟨rfl, hb⟩
  replace Z := Lib.hid (Below.and Z.out hb)
  clear hb
  go_wp2
  go_light
  go_ret
  exact ⟨rfl, Z.out⟩

end Go.Proofs.Ytfbfhgejclencaa
