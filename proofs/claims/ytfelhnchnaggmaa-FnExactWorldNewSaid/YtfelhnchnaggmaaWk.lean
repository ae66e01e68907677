/- A new world marked and held; the exact law of WorldNew, walked. -/
import Derived.Test.YtfelhnchnaggmaaWg
import Derived.Test.YtfelhnchnaggmaaWc
import Derived.Test.YtfelhnchnaggmaaRh
import Derived.Test.YtfelhnchnaggmaaWj
namespace Go.Proofs.Ytfelhnchnaggmaa
open Go.ChangeShapes Go.WideShapes Go.ChangeAt Go.RowKit
set_option linter.unusedVariables false
set_option linter.unusedSimpArgs false

abbrev mkV0 : List Value := [.int .i64 0, .int .i64 0, .bool true, .int .i64 1, .slice none 0 0, .slice none 0 0, .slice none 0 0, .int .i64 1, .int .i64 0, .bool true, .int .i64 1, .slice none 0 0, .slice none 0 0, .slice none 0 0, .int .i64 2, .int .i64 0, .bool true, .int .i64 1, .slice none 0 0, .slice none 0 0, .slice none 0 0, .int .i64 3, .int .i64 0, .bool true, .int .i64 1, .slice none 0 0, .slice none 0 0, .slice none 0 0]
abbrev mkV1 : List Value := [.int .i64 1, .int .i64 2, .bool true, .int .i64 4, .slice none 0 0, .slice none 0 0, .slice none 0 0, .int .i64 1, .int .i64 0, .bool true, .int .i64 1, .slice none 0 0, .slice none 0 0, .slice none 0 0, .int .i64 2, .int .i64 0, .bool true, .int .i64 1, .slice none 0 0, .slice none 0 0, .slice none 0 0, .int .i64 3, .int .i64 0, .bool true, .int .i64 1, .slice none 0 0, .slice none 0 0, .slice none 0 0]
abbrev mkV2 : List Value := [.int .i64 1, .int .i64 2, .bool true, .int .i64 4, .slice none 0 0, .slice none 0 0, .slice none 0 0, .int .i64 5, .int .i64 6, .bool false, .int .i64 8, .slice none 0 0, .slice none 0 0, .slice none 0 0, .int .i64 2, .int .i64 0, .bool true, .int .i64 1, .slice none 0 0, .slice none 0 0, .slice none 0 0, .int .i64 3, .int .i64 0, .bool true, .int .i64 1, .slice none 0 0, .slice none 0 0, .slice none 0 0]
abbrev mkV3 : List Value := [.int .i64 1, .int .i64 2, .bool true, .int .i64 4, .slice none 0 0, .slice none 0 0, .slice none 0 0, .int .i64 5, .int .i64 6, .bool false, .int .i64 8, .slice none 0 0, .slice none 0 0, .slice none 0 0, .int .i64 9, .int .i64 10, .bool false, .int .i64 12, .slice none 0 0, .slice none 0 0, .slice none 0 0, .int .i64 3, .int .i64 0, .bool true, .int .i64 1, .slice none 0 0, .slice none 0 0, .slice none 0 0]
abbrev mkV4 : List Value := [.int .i64 1, .int .i64 2, .bool true, .int .i64 4, .slice none 0 0, .slice none 0 0, .slice none 0 0, .int .i64 5, .int .i64 6, .bool false, .int .i64 8, .slice none 0 0, .slice none 0 0, .slice none 0 0, .int .i64 9, .int .i64 10, .bool false, .int .i64 12, .slice none 0 0, .slice none 0 0, .slice none 0 0, .int .i64 13, .int .i64 14, .bool true, .int .i64 16, .slice none 0 0, .slice none 0 0, .slice none 0 0]
def mkV : Nat → List Value
  | 0 => mkV0
  | 1 => mkV1
  | 2 => mkV2
  | 3 => mkV3
  | _ => mkV4
theorem new_mkV : (newK 4).flatMap RpP.cells = mkV 0 := rfl
set_option maxRecDepth 100000 in
set_option maxHeartbeats 4000000 in
theorem markRepSNew (base : Nat) (B : Option Addr) (d : Nat) (w : World) (ho : w.ownsRow base 47 7 (.slice B 4 d) 4 (mkV 0)) (hb0 : base ≤ w.heap.size) :
    Calls Try.prog 39 #[.slice B 4 d, .int .i64 1] w fun e w' => e = .returned (.int .i64 17) ∧ w'.ownsRow base 47 7 (.slice B 4 d) 4 (mkV 4) ∧ w.grownBy w' (Value.slice B 4 d).ownBlock := by
  obtain ⟨g, rfl, hg1, hg2⟩ := own_some ho (by omega)
  have O0 := Lib.hid ho
  have G0 : Hid (w.grownBy w (some g)) := World.grownBy.refl _ _
  show Calls Try.prog 39 #[.slice (some ⟨g, 0, none⟩) 4 d, .int .i64 1] w fun e w' => e = .returned (.int .i64 17) ∧ w'.ownsRow base 47 7 (.slice (some ⟨g, 0, none⟩) 4 d) 4 (mkV 4) ∧ w.grownBy w' (some g)
  clear ho
  go_enter Try.func39, Try.ntmps39
  go_wp2
  go_loopw [1, 5] (fun kv iv wr => ∃ j : Nat, j ≤ 4 ∧ iv = .int .i64 (j : Int) ∧ kv = .int .i64 (1 + 4 * (j : Int)) ∧ Hid (wr.ownsRow base 47 7 (.slice (some ⟨g, 0, none⟩) 4 d) 4 (mkV j)) ∧ Hid (w.grownBy wr (some g))) (fun _ iv _ => 4 - (intOf iv).toNat)
  case atStart => exact ⟨0, by omega, rfl, rfl, O0, G0⟩
  case round =>
    clear O0 G0
    obtain ⟨j, hj, rfl, rfl, OO, GG⟩ := hrel
    have hgw : g < wr.heap.size := (OO.out.lt g rfl).2
    obtain h | h | h | h | h : j = 0 ∨ j = 1 ∨ j = 2 ∨ j = 3 ∨ j = 4 := by omega
    · subst h
      have O1 : Hid (wr.ownsRow base 47 7 (.slice (some ⟨g, 0, none⟩) 4 d) 4 mkV0) := OO
      clear OO
      have hf := fun p => O1.out.frozenAt p
      have x0 : wr.cell? ⟨g, 0, none⟩ = some (.int .i64 0) := (O1.out.cellAt 0 (by decide)).trans rfl
      have x1 : wr.cell? ⟨g, 1, none⟩ = some (.int .i64 0) := (O1.out.cellAt 1 (by decide)).trans rfl
      have x2 : wr.cell? ⟨g, 2, none⟩ = some (.bool true) := (O1.out.cellAt 2 (by decide)).trans rfl
      have x3 : wr.cell? ⟨g, 3, none⟩ = some (.int .i64 1) := (O1.out.cellAt 3 (by decide)).trans rfl
      have x4 : wr.cell? ⟨g, 4, none⟩ = some (.slice none 0 0) := (O1.out.cellAt 4 (by decide)).trans rfl
      have x5 : wr.cell? ⟨g, 5, none⟩ = some (.slice none 0 0) := (O1.out.cellAt 5 (by decide)).trans rfl
      have x6 : wr.cell? ⟨g, 6, none⟩ = some (.slice none 0 0) := (O1.out.cellAt 6 (by decide)).trans rfl
      have O2 : Hid (((((wr.setCell ⟨g, 0, none⟩ (.int .i64 1)).setCell ⟨g, 1, none⟩ (.int .i64 2)).setCell ⟨g, 2, none⟩ (.bool true)).setCell ⟨g, 3, none⟩ (.int .i64 4)).ownsRow base 47 7 (.slice (some ⟨g, 0, none⟩) 4 d) 4 mkV1) := (World.ownsRow.stored (World.ownsRow.stored (World.ownsRow.stored (World.ownsRow.stored O1.out 0 (.int .i64 1)).1 1 (.int .i64 2)).1 2 (.bool true)).1 3 (.int .i64 4)).1
      have G2 : Hid (w.grownBy ((((wr.setCell ⟨g, 0, none⟩ (.int .i64 1)).setCell ⟨g, 1, none⟩ (.int .i64 2)).setCell ⟨g, 2, none⟩ (.bool true)).setCell ⟨g, 3, none⟩ (.int .i64 4)) (some g)) := (grownBy_trans (grownBy_trans (grownBy_trans (grownBy_trans GG.out (grownBy_set wr g 0 (.int .i64 1))) (grownBy_set (wr.setCell ⟨g, 0, none⟩ (.int .i64 1)) g 1 (.int .i64 2))) (grownBy_set ((wr.setCell ⟨g, 0, none⟩ (.int .i64 1)).setCell ⟨g, 1, none⟩ (.int .i64 2)) g 2 (.bool true))) (grownBy_set (((wr.setCell ⟨g, 0, none⟩ (.int .i64 1)).setCell ⟨g, 1, none⟩ (.int .i64 2)).setCell ⟨g, 2, none⟩ (.bool true)) g 3 (.int .i64 4)))
      have e0 : (((1:Int) + 1 + 1).tmod 3 == 0) = true := by decide
      go_wp2_with (fail)
      refine (markClaimSNil 5 _).mono ?_
      rintro e w2 ⟨rfl, hb⟩
      have O2 := Lib.hid (own_below O2.out hb)
      have G2 := Lib.hid (grownBy_trans G2.out (Below.grownBy hb _))
      clear hb x0 x1 x2 x3 x4 x5 x6 hf
      have x5 : w2.cell? ⟨g, 5, none⟩ = some (.slice none 0 0) := (O2.out.cellAt 5 (by decide)).trans rfl
      go_wp2_with (fail)
      refine (markMsgSNil 5 _).mono ?_
      rintro e w3 ⟨rfl, hb⟩
      have O2 := Lib.hid (own_below O2.out hb)
      have G2 := Lib.hid (grownBy_trans G2.out (Below.grownBy hb _))
      clear hb x5
      have x6 : w3.cell? ⟨g, 6, none⟩ = some (.slice none 0 0) := (O2.out.cellAt 6 (by decide)).trans rfl
      go_wp2_with (fail)
      refine (markClaimSNil 5 _).mono ?_
      rintro e w4 ⟨rfl, hb⟩
      have O2 : Hid (w4.ownsRow base 47 7 (.slice (some ⟨g, 0, none⟩) 4 d) 4 (mkV 1)) := own_below O2.out hb
      have G2 := Lib.hid (grownBy_trans G2.out (Below.grownBy hb _))
      clear hb x6
      go_wp2
      go_roundw
      case rel => exact ⟨1, by omega, rfl, rfl, O2, G2⟩
      case measure => simp [intOf]
    · subst h
      have O1 : Hid (wr.ownsRow base 47 7 (.slice (some ⟨g, 0, none⟩) 4 d) 4 mkV1) := OO
      clear OO
      have hf := fun p => O1.out.frozenAt p
      have x0 : wr.cell? ⟨g, 7, none⟩ = some (.int .i64 1) := (O1.out.cellAt 7 (by decide)).trans rfl
      have x1 : wr.cell? ⟨g, 8, none⟩ = some (.int .i64 0) := (O1.out.cellAt 8 (by decide)).trans rfl
      have x2 : wr.cell? ⟨g, 9, none⟩ = some (.bool true) := (O1.out.cellAt 9 (by decide)).trans rfl
      have x3 : wr.cell? ⟨g, 10, none⟩ = some (.int .i64 1) := (O1.out.cellAt 10 (by decide)).trans rfl
      have x4 : wr.cell? ⟨g, 11, none⟩ = some (.slice none 0 0) := (O1.out.cellAt 11 (by decide)).trans rfl
      have x5 : wr.cell? ⟨g, 12, none⟩ = some (.slice none 0 0) := (O1.out.cellAt 12 (by decide)).trans rfl
      have x6 : wr.cell? ⟨g, 13, none⟩ = some (.slice none 0 0) := (O1.out.cellAt 13 (by decide)).trans rfl
      have O2 : Hid (((((wr.setCell ⟨g, 7, none⟩ (.int .i64 5)).setCell ⟨g, 8, none⟩ (.int .i64 6)).setCell ⟨g, 9, none⟩ (.bool false)).setCell ⟨g, 10, none⟩ (.int .i64 8)).ownsRow base 47 7 (.slice (some ⟨g, 0, none⟩) 4 d) 4 mkV2) := (World.ownsRow.stored (World.ownsRow.stored (World.ownsRow.stored (World.ownsRow.stored O1.out 7 (.int .i64 5)).1 8 (.int .i64 6)).1 9 (.bool false)).1 10 (.int .i64 8)).1
      have G2 : Hid (w.grownBy ((((wr.setCell ⟨g, 7, none⟩ (.int .i64 5)).setCell ⟨g, 8, none⟩ (.int .i64 6)).setCell ⟨g, 9, none⟩ (.bool false)).setCell ⟨g, 10, none⟩ (.int .i64 8)) (some g)) := (grownBy_trans (grownBy_trans (grownBy_trans (grownBy_trans GG.out (grownBy_set wr g 7 (.int .i64 5))) (grownBy_set (wr.setCell ⟨g, 7, none⟩ (.int .i64 5)) g 8 (.int .i64 6))) (grownBy_set ((wr.setCell ⟨g, 7, none⟩ (.int .i64 5)).setCell ⟨g, 8, none⟩ (.int .i64 6)) g 9 (.bool false))) (grownBy_set (((wr.setCell ⟨g, 7, none⟩ (.int .i64 5)).setCell ⟨g, 8, none⟩ (.int .i64 6)).setCell ⟨g, 9, none⟩ (.bool false)) g 10 (.int .i64 8)))
      have e0 : (((5:Int) + 1 + 1).tmod 3 == 0) = false := by decide
      go_wp2_with (fail)
      refine (markClaimSNil 9 _).mono ?_
      rintro e w2 ⟨rfl, hb⟩
      have O2 := Lib.hid (own_below O2.out hb)
      have G2 := Lib.hid (grownBy_trans G2.out (Below.grownBy hb _))
      clear hb x0 x1 x2 x3 x4 x5 x6 hf
      have x5 : w2.cell? ⟨g, 12, none⟩ = some (.slice none 0 0) := (O2.out.cellAt 12 (by decide)).trans rfl
      go_wp2_with (fail)
      refine (markMsgSNil 9 _).mono ?_
      rintro e w3 ⟨rfl, hb⟩
      have O2 := Lib.hid (own_below O2.out hb)
      have G2 := Lib.hid (grownBy_trans G2.out (Below.grownBy hb _))
      clear hb x5
      have x6 : w3.cell? ⟨g, 13, none⟩ = some (.slice none 0 0) := (O2.out.cellAt 13 (by decide)).trans rfl
      go_wp2_with (fail)
      refine (markClaimSNil 9 _).mono ?_
      rintro e w4 ⟨rfl, hb⟩
      have O2 : Hid (w4.ownsRow base 47 7 (.slice (some ⟨g, 0, none⟩) 4 d) 4 (mkV 2)) := own_below O2.out hb
      have G2 := Lib.hid (grownBy_trans G2.out (Below.grownBy hb _))
      clear hb x6
      go_wp2
      go_roundw
      case rel => exact ⟨2, by omega, rfl, rfl, O2, G2⟩
      case measure => simp [intOf]
    · subst h
      have O1 : Hid (wr.ownsRow base 47 7 (.slice (some ⟨g, 0, none⟩) 4 d) 4 mkV2) := OO
      clear OO
      have hf := fun p => O1.out.frozenAt p
      have x0 : wr.cell? ⟨g, 14, none⟩ = some (.int .i64 2) := (O1.out.cellAt 14 (by decide)).trans rfl
      have x1 : wr.cell? ⟨g, 15, none⟩ = some (.int .i64 0) := (O1.out.cellAt 15 (by decide)).trans rfl
      have x2 : wr.cell? ⟨g, 16, none⟩ = some (.bool true) := (O1.out.cellAt 16 (by decide)).trans rfl
      have x3 : wr.cell? ⟨g, 17, none⟩ = some (.int .i64 1) := (O1.out.cellAt 17 (by decide)).trans rfl
      have x4 : wr.cell? ⟨g, 18, none⟩ = some (.slice none 0 0) := (O1.out.cellAt 18 (by decide)).trans rfl
      have x5 : wr.cell? ⟨g, 19, none⟩ = some (.slice none 0 0) := (O1.out.cellAt 19 (by decide)).trans rfl
      have x6 : wr.cell? ⟨g, 20, none⟩ = some (.slice none 0 0) := (O1.out.cellAt 20 (by decide)).trans rfl
      have O2 : Hid (((((wr.setCell ⟨g, 14, none⟩ (.int .i64 9)).setCell ⟨g, 15, none⟩ (.int .i64 10)).setCell ⟨g, 16, none⟩ (.bool false)).setCell ⟨g, 17, none⟩ (.int .i64 12)).ownsRow base 47 7 (.slice (some ⟨g, 0, none⟩) 4 d) 4 mkV3) := (World.ownsRow.stored (World.ownsRow.stored (World.ownsRow.stored (World.ownsRow.stored O1.out 14 (.int .i64 9)).1 15 (.int .i64 10)).1 16 (.bool false)).1 17 (.int .i64 12)).1
      have G2 : Hid (w.grownBy ((((wr.setCell ⟨g, 14, none⟩ (.int .i64 9)).setCell ⟨g, 15, none⟩ (.int .i64 10)).setCell ⟨g, 16, none⟩ (.bool false)).setCell ⟨g, 17, none⟩ (.int .i64 12)) (some g)) := (grownBy_trans (grownBy_trans (grownBy_trans (grownBy_trans GG.out (grownBy_set wr g 14 (.int .i64 9))) (grownBy_set (wr.setCell ⟨g, 14, none⟩ (.int .i64 9)) g 15 (.int .i64 10))) (grownBy_set ((wr.setCell ⟨g, 14, none⟩ (.int .i64 9)).setCell ⟨g, 15, none⟩ (.int .i64 10)) g 16 (.bool false))) (grownBy_set (((wr.setCell ⟨g, 14, none⟩ (.int .i64 9)).setCell ⟨g, 15, none⟩ (.int .i64 10)).setCell ⟨g, 16, none⟩ (.bool false)) g 17 (.int .i64 12)))
      have e0 : (((9:Int) + 1 + 1).tmod 3 == 0) = false := by decide
      go_wp2_with (fail)
      refine (markClaimSNil 13 _).mono ?_
      rintro e w2 ⟨rfl, hb⟩
      have O2 := Lib.hid (own_below O2.out hb)
      have G2 := Lib.hid (grownBy_trans G2.out (Below.grownBy hb _))
      clear hb x0 x1 x2 x3 x4 x5 x6 hf
      have x5 : w2.cell? ⟨g, 19, none⟩ = some (.slice none 0 0) := (O2.out.cellAt 19 (by decide)).trans rfl
      go_wp2_with (fail)
      refine (markMsgSNil 13 _).mono ?_
      rintro e w3 ⟨rfl, hb⟩
      have O2 := Lib.hid (own_below O2.out hb)
      have G2 := Lib.hid (grownBy_trans G2.out (Below.grownBy hb _))
      clear hb x5
      have x6 : w3.cell? ⟨g, 20, none⟩ = some (.slice none 0 0) := (O2.out.cellAt 20 (by decide)).trans rfl
      go_wp2_with (fail)
      refine (markClaimSNil 13 _).mono ?_
      rintro e w4 ⟨rfl, hb⟩
      have O2 : Hid (w4.ownsRow base 47 7 (.slice (some ⟨g, 0, none⟩) 4 d) 4 (mkV 3)) := own_below O2.out hb
      have G2 := Lib.hid (grownBy_trans G2.out (Below.grownBy hb _))
      clear hb x6
      go_wp2
      go_roundw
      case rel => exact ⟨3, by omega, rfl, rfl, O2, G2⟩
      case measure => simp [intOf]
    · subst h
      have O1 : Hid (wr.ownsRow base 47 7 (.slice (some ⟨g, 0, none⟩) 4 d) 4 mkV3) := OO
      clear OO
      have hf := fun p => O1.out.frozenAt p
      have x0 : wr.cell? ⟨g, 21, none⟩ = some (.int .i64 3) := (O1.out.cellAt 21 (by decide)).trans rfl
      have x1 : wr.cell? ⟨g, 22, none⟩ = some (.int .i64 0) := (O1.out.cellAt 22 (by decide)).trans rfl
      have x2 : wr.cell? ⟨g, 23, none⟩ = some (.bool true) := (O1.out.cellAt 23 (by decide)).trans rfl
      have x3 : wr.cell? ⟨g, 24, none⟩ = some (.int .i64 1) := (O1.out.cellAt 24 (by decide)).trans rfl
      have x4 : wr.cell? ⟨g, 25, none⟩ = some (.slice none 0 0) := (O1.out.cellAt 25 (by decide)).trans rfl
      have x5 : wr.cell? ⟨g, 26, none⟩ = some (.slice none 0 0) := (O1.out.cellAt 26 (by decide)).trans rfl
      have x6 : wr.cell? ⟨g, 27, none⟩ = some (.slice none 0 0) := (O1.out.cellAt 27 (by decide)).trans rfl
      have O2 : Hid (((((wr.setCell ⟨g, 21, none⟩ (.int .i64 13)).setCell ⟨g, 22, none⟩ (.int .i64 14)).setCell ⟨g, 23, none⟩ (.bool true)).setCell ⟨g, 24, none⟩ (.int .i64 16)).ownsRow base 47 7 (.slice (some ⟨g, 0, none⟩) 4 d) 4 mkV4) := (World.ownsRow.stored (World.ownsRow.stored (World.ownsRow.stored (World.ownsRow.stored O1.out 21 (.int .i64 13)).1 22 (.int .i64 14)).1 23 (.bool true)).1 24 (.int .i64 16)).1
      have G2 : Hid (w.grownBy ((((wr.setCell ⟨g, 21, none⟩ (.int .i64 13)).setCell ⟨g, 22, none⟩ (.int .i64 14)).setCell ⟨g, 23, none⟩ (.bool true)).setCell ⟨g, 24, none⟩ (.int .i64 16)) (some g)) := (grownBy_trans (grownBy_trans (grownBy_trans (grownBy_trans GG.out (grownBy_set wr g 21 (.int .i64 13))) (grownBy_set (wr.setCell ⟨g, 21, none⟩ (.int .i64 13)) g 22 (.int .i64 14))) (grownBy_set ((wr.setCell ⟨g, 21, none⟩ (.int .i64 13)).setCell ⟨g, 22, none⟩ (.int .i64 14)) g 23 (.bool true))) (grownBy_set (((wr.setCell ⟨g, 21, none⟩ (.int .i64 13)).setCell ⟨g, 22, none⟩ (.int .i64 14)).setCell ⟨g, 23, none⟩ (.bool true)) g 24 (.int .i64 16)))
      have e0 : (((13:Int) + 1 + 1).tmod 3 == 0) = true := by decide
      go_wp2_with (fail)
      refine (markClaimSNil 17 _).mono ?_
      rintro e w2 ⟨rfl, hb⟩
      have O2 := Lib.hid (own_below O2.out hb)
      have G2 := Lib.hid (grownBy_trans G2.out (Below.grownBy hb _))
      clear hb x0 x1 x2 x3 x4 x5 x6 hf
      have x5 : w2.cell? ⟨g, 26, none⟩ = some (.slice none 0 0) := (O2.out.cellAt 26 (by decide)).trans rfl
      go_wp2_with (fail)
      refine (markMsgSNil 17 _).mono ?_
      rintro e w3 ⟨rfl, hb⟩
      have O2 := Lib.hid (own_below O2.out hb)
      have G2 := Lib.hid (grownBy_trans G2.out (Below.grownBy hb _))
      clear hb x5
      have x6 : w3.cell? ⟨g, 27, none⟩ = some (.slice none 0 0) := (O2.out.cellAt 27 (by decide)).trans rfl
      go_wp2_with (fail)
      refine (markClaimSNil 17 _).mono ?_
      rintro e w4 ⟨rfl, hb⟩
      have O2 : Hid (w4.ownsRow base 47 7 (.slice (some ⟨g, 0, none⟩) 4 d) 4 (mkV 4)) := own_below O2.out hb
      have G2 := Lib.hid (grownBy_trans G2.out (Below.grownBy hb _))
      clear hb x6
      go_wp2
      go_roundw
      case rel => exact ⟨4, by omega, rfl, rfl, O2, G2⟩
      case measure => simp [intOf]
    · subst h
      go_wp2
      go_light
      go_ret
      exact ⟨rfl, OO.out, GG.out⟩

set_option maxRecDepth 100000 in
set_option maxHeartbeats 4000000 in
theorem heldRepSNew (base : Nat) (B : Option Addr) (d : Nat) (w : World) (ho : w.ownsRow base 47 7 (.slice B 4 d) 4 (mkV 4)) :
    Calls Try.prog 41 #[.slice B 4 d, .int .i64 1] w fun e w' => e = .returned (.int .i64 17) ∧ Below w.heap.size w w' := by
  obtain ⟨g, rfl, hg1, hg2⟩ := own_some ho (by omega)
  have O0 : Hid (w.ownsRow base 47 7 (.slice (some ⟨g, 0, none⟩) 4 d) 4 mkV4) := ho
  have B0 : Hid (Below w.heap.size w w) := Below.refl _ _
  clear ho
  go_enter Try.func41, Try.ntmps41
  go_wp2
  go_loopw [1, 5] (fun kv iv wr => ∃ j : Nat, j ≤ 4 ∧ iv = .int .i64 (j : Int) ∧ kv = .int .i64 (1 + 4 * (j : Int)) ∧ Hid (Below w.heap.size w wr)) (fun _ iv _ => 4 - (intOf iv).toNat)
  case atStart => exact ⟨0, by omega, rfl, rfl, B0⟩
  case round =>
    clear B0
    obtain ⟨j, hj, rfl, rfl, hb⟩ := hrel
    have BB := Lib.hid hb.out
    have O1 := Lib.hid (own_below O0.out hb.out)
    clear hb
    have hgw : g < wr.heap.size := (O1.out.lt g rfl).2
    obtain h | h | h | h | h : j = 0 ∨ j = 1 ∨ j = 2 ∨ j = 3 ∨ j = 4 := by omega
    · subst h
      have x0 : wr.cell? ⟨g, 0, none⟩ = some (.int .i64 1) := (O1.out.cellAt 0 (by decide)).trans rfl
      have x1 : wr.cell? ⟨g, 1, none⟩ = some (.int .i64 2) := (O1.out.cellAt 1 (by decide)).trans rfl
      have x2 : wr.cell? ⟨g, 2, none⟩ = some (.bool true) := (O1.out.cellAt 2 (by decide)).trans rfl
      have x3 : wr.cell? ⟨g, 3, none⟩ = some (.int .i64 4) := (O1.out.cellAt 3 (by decide)).trans rfl
      have x4 : wr.cell? ⟨g, 4, none⟩ = some (.slice none 0 0) := (O1.out.cellAt 4 (by decide)).trans rfl
      have x5 : wr.cell? ⟨g, 5, none⟩ = some (.slice none 0 0) := (O1.out.cellAt 5 (by decide)).trans rfl
      have x6 : wr.cell? ⟨g, 6, none⟩ = some (.slice none 0 0) := (O1.out.cellAt 6 (by decide)).trans rfl
      have e0 : (((1:Int) + 1 + 1).tmod 3 == 0) = true := by decide
      go_wp2_with (fail)
      refine (heldClaimSNil 5 _).mono ?_
      rintro e w2 ⟨rfl, hb⟩
      have O2 := Lib.hid (own_below O1.out hb)
      have BB := Lib.hid (Below.and BB.out hb)
      clear hb x0 x1 x2 x3 x4 x5 x6
      have x5 : w2.cell? ⟨g, 5, none⟩ = some (.slice none 0 0) := (O2.out.cellAt 5 (by decide)).trans rfl
      go_wp2_with (fail)
      refine (heldMsgSNil 5 _).mono ?_
      rintro e w3 ⟨rfl, hb⟩
      have O2 := Lib.hid (own_below O2.out hb)
      have BB := Lib.hid (Below.and BB.out hb)
      clear hb x5
      have x6 : w3.cell? ⟨g, 6, none⟩ = some (.slice none 0 0) := (O2.out.cellAt 6 (by decide)).trans rfl
      go_wp2_with (fail)
      refine (heldClaimSNil 5 _).mono ?_
      rintro e w4 ⟨rfl, hb⟩
      have BB := Lib.hid (Below.and BB.out hb)
      clear hb x6 O2 O1
      go_wp2
      go_roundw
      case rel => exact ⟨1, by omega, rfl, rfl, BB⟩
      case measure => simp [intOf]
    · subst h
      have x0 : wr.cell? ⟨g, 7, none⟩ = some (.int .i64 5) := (O1.out.cellAt 7 (by decide)).trans rfl
      have x1 : wr.cell? ⟨g, 8, none⟩ = some (.int .i64 6) := (O1.out.cellAt 8 (by decide)).trans rfl
      have x2 : wr.cell? ⟨g, 9, none⟩ = some (.bool false) := (O1.out.cellAt 9 (by decide)).trans rfl
      have x3 : wr.cell? ⟨g, 10, none⟩ = some (.int .i64 8) := (O1.out.cellAt 10 (by decide)).trans rfl
      have x4 : wr.cell? ⟨g, 11, none⟩ = some (.slice none 0 0) := (O1.out.cellAt 11 (by decide)).trans rfl
      have x5 : wr.cell? ⟨g, 12, none⟩ = some (.slice none 0 0) := (O1.out.cellAt 12 (by decide)).trans rfl
      have x6 : wr.cell? ⟨g, 13, none⟩ = some (.slice none 0 0) := (O1.out.cellAt 13 (by decide)).trans rfl
      have e0 : (((5:Int) + 1 + 1).tmod 3 == 0) = false := by decide
      go_wp2_with (fail)
      refine (heldClaimSNil 9 _).mono ?_
      rintro e w2 ⟨rfl, hb⟩
      have O2 := Lib.hid (own_below O1.out hb)
      have BB := Lib.hid (Below.and BB.out hb)
      clear hb x0 x1 x2 x3 x4 x5 x6
      have x5 : w2.cell? ⟨g, 12, none⟩ = some (.slice none 0 0) := (O2.out.cellAt 12 (by decide)).trans rfl
      go_wp2_with (fail)
      refine (heldMsgSNil 9 _).mono ?_
      rintro e w3 ⟨rfl, hb⟩
      have O2 := Lib.hid (own_below O2.out hb)
      have BB := Lib.hid (Below.and BB.out hb)
      clear hb x5
      have x6 : w3.cell? ⟨g, 13, none⟩ = some (.slice none 0 0) := (O2.out.cellAt 13 (by decide)).trans rfl
      go_wp2_with (fail)
      refine (heldClaimSNil 9 _).mono ?_
      rintro e w4 ⟨rfl, hb⟩
      have BB := Lib.hid (Below.and BB.out hb)
      clear hb x6 O2 O1
      go_wp2
      go_roundw
      case rel => exact ⟨2, by omega, rfl, rfl, BB⟩
      case measure => simp [intOf]
    · subst h
      have x0 : wr.cell? ⟨g, 14, none⟩ = some (.int .i64 9) := (O1.out.cellAt 14 (by decide)).trans rfl
      have x1 : wr.cell? ⟨g, 15, none⟩ = some (.int .i64 10) := (O1.out.cellAt 15 (by decide)).trans rfl
      have x2 : wr.cell? ⟨g, 16, none⟩ = some (.bool false) := (O1.out.cellAt 16 (by decide)).trans rfl
      have x3 : wr.cell? ⟨g, 17, none⟩ = some (.int .i64 12) := (O1.out.cellAt 17 (by decide)).trans rfl
      have x4 : wr.cell? ⟨g, 18, none⟩ = some (.slice none 0 0) := (O1.out.cellAt 18 (by decide)).trans rfl
      have x5 : wr.cell? ⟨g, 19, none⟩ = some (.slice none 0 0) := (O1.out.cellAt 19 (by decide)).trans rfl
      have x6 : wr.cell? ⟨g, 20, none⟩ = some (.slice none 0 0) := (O1.out.cellAt 20 (by decide)).trans rfl
      have e0 : (((9:Int) + 1 + 1).tmod 3 == 0) = false := by decide
      go_wp2_with (fail)
      refine (heldClaimSNil 13 _).mono ?_
      rintro e w2 ⟨rfl, hb⟩
      have O2 := Lib.hid (own_below O1.out hb)
      have BB := Lib.hid (Below.and BB.out hb)
      clear hb x0 x1 x2 x3 x4 x5 x6
      have x5 : w2.cell? ⟨g, 19, none⟩ = some (.slice none 0 0) := (O2.out.cellAt 19 (by decide)).trans rfl
      go_wp2_with (fail)
      refine (heldMsgSNil 13 _).mono ?_
      rintro e w3 ⟨rfl, hb⟩
      have O2 := Lib.hid (own_below O2.out hb)
      have BB := Lib.hid (Below.and BB.out hb)
      clear hb x5
      have x6 : w3.cell? ⟨g, 20, none⟩ = some (.slice none 0 0) := (O2.out.cellAt 20 (by decide)).trans rfl
      go_wp2_with (fail)
      refine (heldClaimSNil 13 _).mono ?_
      rintro e w4 ⟨rfl, hb⟩
      have BB := Lib.hid (Below.and BB.out hb)
      clear hb x6 O2 O1
      go_wp2
      go_roundw
      case rel => exact ⟨3, by omega, rfl, rfl, BB⟩
      case measure => simp [intOf]
    · subst h
      have x0 : wr.cell? ⟨g, 21, none⟩ = some (.int .i64 13) := (O1.out.cellAt 21 (by decide)).trans rfl
      have x1 : wr.cell? ⟨g, 22, none⟩ = some (.int .i64 14) := (O1.out.cellAt 22 (by decide)).trans rfl
      have x2 : wr.cell? ⟨g, 23, none⟩ = some (.bool true) := (O1.out.cellAt 23 (by decide)).trans rfl
      have x3 : wr.cell? ⟨g, 24, none⟩ = some (.int .i64 16) := (O1.out.cellAt 24 (by decide)).trans rfl
      have x4 : wr.cell? ⟨g, 25, none⟩ = some (.slice none 0 0) := (O1.out.cellAt 25 (by decide)).trans rfl
      have x5 : wr.cell? ⟨g, 26, none⟩ = some (.slice none 0 0) := (O1.out.cellAt 26 (by decide)).trans rfl
      have x6 : wr.cell? ⟨g, 27, none⟩ = some (.slice none 0 0) := (O1.out.cellAt 27 (by decide)).trans rfl
      have e0 : (((13:Int) + 1 + 1).tmod 3 == 0) = true := by decide
      go_wp2_with (fail)
      refine (heldClaimSNil 17 _).mono ?_
      rintro e w2 ⟨rfl, hb⟩
      have O2 := Lib.hid (own_below O1.out hb)
      have BB := Lib.hid (Below.and BB.out hb)
      clear hb x0 x1 x2 x3 x4 x5 x6
      have x5 : w2.cell? ⟨g, 26, none⟩ = some (.slice none 0 0) := (O2.out.cellAt 26 (by decide)).trans rfl
      go_wp2_with (fail)
      refine (heldMsgSNil 17 _).mono ?_
      rintro e w3 ⟨rfl, hb⟩
      have O2 := Lib.hid (own_below O2.out hb)
      have BB := Lib.hid (Below.and BB.out hb)
      clear hb x5
      have x6 : w3.cell? ⟨g, 27, none⟩ = some (.slice none 0 0) := (O2.out.cellAt 27 (by decide)).trans rfl
      go_wp2_with (fail)
      refine (heldClaimSNil 17 _).mono ?_
      rintro e w4 ⟨rfl, hb⟩
      have BB := Lib.hid (Below.and BB.out hb)
      clear hb x6 O2 O1
      go_wp2
      go_roundw
      case rel => exact ⟨4, by omega, rfl, rfl, BB⟩
      case measure => simp [intOf]
    · subst h
      go_wp2
      go_light
      go_ret
      exact ⟨rfl, BB.out⟩

set_option maxRecDepth 100000 in
set_option maxHeartbeats 1000000 in
theorem markRepS0 (B : Option Addr) (d : Nat) (w : World) :
    Calls Try.prog 39 #[.slice B 0 d, .int .i64 1] w fun e w' => e = .returned (.int .i64 1) ∧ Below w.heap.size w w' := by
  go_enter Try.func39, Try.ntmps39
  go_wp2
  go_loop [1, 5] (fun kk i => i = .int .i64 0 ∧ kk = .int .i64 1) (fun _ _ => 0)
  case atStart => exact ⟨rfl, rfl⟩
  case round =>
    obtain ⟨rfl, rfl⟩ := hrel
    go_wp2
    go_light
    go_ret
    exact ⟨rfl, Below.refl _ _⟩

set_option maxRecDepth 100000 in
set_option maxHeartbeats 1000000 in
theorem heldRepS0 (B : Option Addr) (d : Nat) (w : World) :
    Calls Try.prog 41 #[.slice B 0 d, .int .i64 1] w fun e w' => e = .returned (.int .i64 1) ∧ Below w.heap.size w w' := by
  go_enter Try.func41, Try.ntmps41
  go_wp2
  go_loop [1, 5] (fun kk i => i = .int .i64 0 ∧ kk = .int .i64 1) (fun _ _ => 0)
  case atStart => exact ⟨rfl, rfl⟩
  case round =>
    obtain ⟨rfl, rfl⟩ := hrel
    go_wp2
    go_light
    go_ret
    exact ⟨rfl, Below.refl _ _⟩

set_option maxRecDepth 100000 in
set_option maxHeartbeats 2000000 in
theorem markWorldNew (bad : Int) (base : Nat) (B : Option Addr) (d : Nat) (w : World) (ho : w.ownsRow base 47 7 (.slice B 4 d) 4 (mkV 0)) (hb0 : base ≤ w.heap.size) :
    Calls Try.prog 17 #[.agg #[.int .i64 bad, .slice B 4 d, .slice none 0 0], .int .i64 1] w fun e w' => e = .returned (.int .i64 17) ∧ w'.ownsRow base 47 7 (.slice B 4 d) 4 (mkV 4) ∧ w.grownBy w' (Value.slice B 4 d).ownBlock := by
  have lt : ∀ x, (Value.slice B 4 d).ownBlock = some x → x < w.heap.size := fun x hx => (ho.lt x hx).2
  have GA : Hid (w.grownBy (w.alloc (.cells #[.int .i64 bad, .slice B 4 d, .slice none 0 0] 27)) (Value.slice B 4 d).ownBlock) := World.grownBy_alloc w _ _
  have K0 : Hid (Blk (w.alloc (.cells #[.int .i64 bad, .slice B 4 d, .slice none 0 0] 27)) w.heap.size 27 #[.int .i64 bad, .slice B 4 d, .slice none 0 0]) := Blk.new w
  have OO : Hid ((w.alloc (.cells #[.int .i64 bad, .slice B 4 d, .slice none 0 0] 27)).ownsRow base 47 7 (.slice B 4 d) 4 (mkV 0)) := ho.alloc _
  have HB : Hid (base ≤ (w.alloc (.cells #[.int .i64 bad, .slice B 4 d, .slice none 0 0] 27)).heap.size) := by show base ≤ _; simp; omega
  clear ho
  go_enter Try.func17, Try.ntmps17
  go_wp2_with (fail)
  refine (markRepSNew base B d _ OO.out HB.out).mono ?_
  rintro e w1 ⟨rfl, ho, hg⟩
  have K1 := Lib.hid (K0.out.grown hg (fun e => by have := lt _ e.symm; omega))
  have GA := Lib.hid (grownBy_trans GA.out hg)
  have OO := Lib.hid ho
  clear ho hg
  have x2 : w1.cell? ⟨w.heap.size, 2, none⟩ = some (.slice none 0 0) := K1.out.cell 2
  go_wp2_with (fail)
  refine (markMsgSNil 17 _).mono ?_
  rintro e w2 ⟨rfl, hb⟩
  have GA := Lib.hid (grownBy_trans GA.out (Below.grownBy hb _))
  have OO := Lib.hid (own_below OO.out hb)
  clear hb x2
  go_wp2
  go_light
  go_ret
  exact ⟨rfl, OO.out, GA.out⟩

set_option maxRecDepth 100000 in
set_option maxHeartbeats 2000000 in
theorem heldWorldNew (bad : Int) (base : Nat) (B : Option Addr) (d : Nat) (w : World) (ho : w.ownsRow base 47 7 (.slice B 4 d) 4 (mkV 4)) :
    Calls Try.prog 18 #[.agg #[.int .i64 bad, .slice B 4 d, .slice none 0 0], .int .i64 1] w fun e w' => e = .returned (.int .i64 17) ∧ Below w.heap.size w w' := by
  have BW : Hid (Below w.heap.size w (w.alloc (.cells #[.int .i64 bad, .slice B 4 d, .slice none 0 0] 27))) := (Below.refl _ _).alloc (Nat.le_refl _) _
  have K0 : Hid (Blk (w.alloc (.cells #[.int .i64 bad, .slice B 4 d, .slice none 0 0] 27)) w.heap.size 27 #[.int .i64 bad, .slice B 4 d, .slice none 0 0]) := Blk.new w
  have OO : Hid ((w.alloc (.cells #[.int .i64 bad, .slice B 4 d, .slice none 0 0] 27)).ownsRow base 47 7 (.slice B 4 d) 4 (mkV 4)) := ho.alloc _
  clear ho
  go_enter Try.func18, Try.ntmps18
  go_wp2_with (fail)
  refine (heldRepSNew base B d _ OO.out).mono ?_
  rintro e w1 ⟨rfl, hb⟩
  have BW := Lib.hid (Below.and BW.out hb)
  have K0 := Lib.hid (K0.out.below hb)
  clear hb
  have x2 : w1.cell? ⟨w.heap.size, 2, none⟩ = some (.slice none 0 0) := K0.out.cell 2
  go_wp2_with (fail)
  refine (heldMsgSNil 17 _).mono ?_
  rintro e w2 ⟨rfl, hb⟩
  have BW := Lib.hid (Below.and BW.out hb)
  clear hb x2
  go_wp2
  go_light
  go_ret
  exact ⟨rfl, BW.out⟩

set_option maxRecDepth 100000 in
set_option maxHeartbeats 2000000 in
theorem markWorld0 (bad : Int) (B : Option Addr) (d : Nat) (w : World) :
    Calls Try.prog 17 #[.agg #[.int .i64 bad, .slice B 0 d, .slice none 0 0], .int .i64 1] w fun e w' => e = .returned (.int .i64 1) ∧ Below w.heap.size w w' := by
  have BW : Hid (Below w.heap.size w (w.alloc (.cells #[.int .i64 bad, .slice B 0 d, .slice none 0 0] 27))) := (Below.refl _ _).alloc (Nat.le_refl _) _
  have K0 : Hid (Blk (w.alloc (.cells #[.int .i64 bad, .slice B 0 d, .slice none 0 0] 27)) w.heap.size 27 #[.int .i64 bad, .slice B 0 d, .slice none 0 0]) := Blk.new w
  go_enter Try.func17, Try.ntmps17
  go_wp2_with (fail)
  refine (markRepS0 B d _).mono ?_
  rintro e w1 ⟨rfl, hb⟩
  have BW := Lib.hid (Below.and BW.out hb)
  have K0 := Lib.hid (K0.out.below hb)
  clear hb
  have x2 : w1.cell? ⟨w.heap.size, 2, none⟩ = some (.slice none 0 0) := K0.out.cell 2
  go_wp2_with (fail)
  refine (markMsgSNil 1 _).mono ?_
  rintro e w2 ⟨rfl, hb⟩
  have BW := Lib.hid (Below.and BW.out hb)
  clear hb x2
  go_wp2
  go_light
  go_ret
  exact ⟨rfl, BW.out⟩

set_option maxRecDepth 100000 in
set_option maxHeartbeats 2000000 in
theorem heldWorld0 (bad : Int) (B : Option Addr) (d : Nat) (w : World) :
    Calls Try.prog 18 #[.agg #[.int .i64 bad, .slice B 0 d, .slice none 0 0], .int .i64 1] w fun e w' => e = .returned (.int .i64 1) ∧ Below w.heap.size w w' := by
  have BW : Hid (Below w.heap.size w (w.alloc (.cells #[.int .i64 bad, .slice B 0 d, .slice none 0 0] 27))) := (Below.refl _ _).alloc (Nat.le_refl _) _
  have K0 : Hid (Blk (w.alloc (.cells #[.int .i64 bad, .slice B 0 d, .slice none 0 0] 27)) w.heap.size 27 #[.int .i64 bad, .slice B 0 d, .slice none 0 0]) := Blk.new w
  go_enter Try.func18, Try.ntmps18
  go_wp2_with (fail)
  refine (heldRepS0 B d _).mono ?_
  rintro e w1 ⟨rfl, hb⟩
  have BW := Lib.hid (Below.and BW.out hb)
  have K0 := Lib.hid (K0.out.below hb)
  clear hb
  have x2 : w1.cell? ⟨w.heap.size, 2, none⟩ = some (.slice none 0 0) := K0.out.cell 2
  go_wp2_with (fail)
  refine (heldMsgSNil 1 _).mono ?_
  rintro e w2 ⟨rfl, hb⟩
  have BW := Lib.hid (Below.and BW.out hb)
  clear hb x2
  go_wp2
  go_light
  go_ret
  exact ⟨rfl, BW.out⟩

theorem eqWorldNew (bad : Int) (k : Nat) (hk : k = 4 ∨ k = 0) (A B : Option Addr) (a b : Nat) (w : World) (hA : Rd 7 RpP.cells w A (newK k)) (hB : Rd 7 RpP.cells w B (newK k)) :
    Calls Try.prog 16 #[.agg #[.int .i64 bad, .slice A k a, .slice none 0 0], .agg #[.int .i64 bad, .slice B k b, .slice none 0 0]] w fun e w' => e = .returned (.bool true) ∧ Below w.heap.size w w' := by
  have rd : ∀ (A : Option Addr) (a : Nat), Rd 7 RpP.cells w A (newK k) → (⟨bad, A, a, newK k, none, 0, []⟩ : WdP).rd w := by
    intro A a hr
    refine ⟨by rw [newK_len]; unfold maxLen; omega, by simp, ⟨hr, fun p hp => ?_⟩, ⟨(fun i h => by cases h), (fun p hp => by cases hp)⟩⟩
    simp only [newK, List.mem_map] at hp
    obtain ⟨i, _, rfl⟩ := hp
    exact nilR_rd _ _ _ _
  have h := eqWorld ⟨bad, A, a, newK k, none, 0, []⟩ ⟨bad, B, b, newK k, none, 0, []⟩ w (rd A a hA) (rd B b hB)
  simp only [WdP.val, newK_len, List.length_nil] at h
  exact h.mono fun _ _ h' => ⟨h'.1.trans (ret_bool (decide_eq_true rfl)), h'.2⟩

set_option maxRecDepth 100000 in
set_option maxHeartbeats 8000000 in
theorem exactWorldNew (bad : Int) (w : World) :
    Calls Try.prog 5 #[.int .i64 bad] w fun e w' => e = .returned (.bool true) ∧ Below w.heap.size w w' := by
  rcases hk : inB bad 0 3 with _ | _
  · have H1 := Lib.hid (show newB bad = 0 by unfold newB; rw [hk]; rfl)
    have H2 := Lib.hid (show newL bad = newK 0 by unfold newL; rw [hk]; rfl)
    clear hk
    go_enter Try.func5, Try.ntmps5
    go_wp2_with (fail)
    refine (specNewW H1.out H2.out _).mono ?_
    rintro e w1 ⟨A, a, rfl, hoA, hb⟩
    have BW := Lib.hid (hb.alloc hb.size (.cells #[.int .i64 0, .slice A 0 a, .slice none 0 0] 27))
    have K1 : Hid (Blk (w1.alloc (.cells #[.int .i64 0, .slice A 0 a, .slice none 0 0] 27)) w1.heap.size 27 #[.int .i64 0, .slice A 0 a, .slice none 0 0]) := Blk.new w1
    have OA : Hid ((w1.alloc (.cells #[.int .i64 0, .slice A 0 a, .slice none 0 0] 27)).ownsRow w.heap.size 47 7 (.slice A 0 a) 0 ((newK 0).flatMap RpP.cells)) := hoA.alloc _
    have LA : Hid (∀ q, (Value.slice A 0 a).ownBlock = some q → q < w1.heap.size) := fun q hq => (hoA.lt q hq).2
    clear hb hoA
    go_wp2_with (fail)
    refine (implNewW H1.out H2.out _).mono ?_
    rintro e w2 ⟨B, d, rfl, hoB, hb⟩
    have lA : w1.heap.size < w2.heap.size := by have := hb.size; simp at this; omega
    have BW := Lib.hid ((Below.and BW.out hb).alloc (Below.and BW.out hb).size (.cells #[.int .i64 0, .slice B 0 d, .slice none 0 0] 27))
    have K1 := Lib.hid ((K1.out.below hb).alloc (.cells #[.int .i64 0, .slice B 0 d, .slice none 0 0] 27))
    have OA := Lib.hid ((own_below OA.out hb).alloc (.cells #[.int .i64 0, .slice B 0 d, .slice none 0 0] 27))
    have K2 : Hid (Blk (w2.alloc (.cells #[.int .i64 0, .slice B 0 d, .slice none 0 0] 27)) w2.heap.size 27 #[.int .i64 0, .slice B 0 d, .slice none 0 0]) := Blk.new w2
    have OB : Hid ((w2.alloc (.cells #[.int .i64 0, .slice B 0 d, .slice none 0 0] 27)).ownsRow (w1.heap.size + 1) 47 7 (.slice B 0 d) 0 ((newK 0).flatMap RpP.cells)) := own_base (hoB.alloc _) (by simp)
    clear hb hoB
    have x0 : (w2.alloc (.cells #[.int .i64 0, .slice B 0 d, .slice none 0 0] 27)).cell? ⟨w1.heap.size, 0, none⟩ = some (.int .i64 0) := K1.out.cell 0
    have x1 : (w2.alloc (.cells #[.int .i64 0, .slice B 0 d, .slice none 0 0] 27)).cell? ⟨w1.heap.size, 1, none⟩ = some (.slice A 0 a) := K1.out.cell 1
    have x2 : (w2.alloc (.cells #[.int .i64 0, .slice B 0 d, .slice none 0 0] 27)).cell? ⟨w1.heap.size, 2, none⟩ = some (.slice none 0 0) := K1.out.cell 2
    go_wp2_with (fail)
    refine (eqWorldNew 0 0 (by omega) B A d a _ (Rd.of_own RpP.len OB.out (newK_len _)) (Rd.of_own RpP.len OA.out (newK_len _))).mono ?_
    rintro e w3 ⟨rfl, hb⟩
    have BW := Lib.hid (Below.and BW.out hb)
    have K1 := Lib.hid (K1.out.below hb)
    have K2 := Lib.hid (K2.out.below hb)
    have OA := Lib.hid (own_below OA.out hb)
    have OB := Lib.hid (own_below OB.out hb)
    clear hb x0 x1 x2
    have y0 : w3.cell? ⟨w2.heap.size, 0, none⟩ = some (.int .i64 0) := K2.out.cell 0
    have y1 : w3.cell? ⟨w2.heap.size, 1, none⟩ = some (.slice B 0 d) := K2.out.cell 1
    have y2 : w3.cell? ⟨w2.heap.size, 2, none⟩ = some (.slice none 0 0) := K2.out.cell 2
    have l2 := K2.out.lt
    go_wp2_with (fail)
    refine (markWorld0 0 B d _).mono ?_
    rintro e w4 ⟨rfl, hb⟩
    have BW := Lib.hid (Below.and BW.out hb)
    have K1 := Lib.hid (K1.out.below hb)
    have K2 := Lib.hid (K2.out.below hb)
    have OA := Lib.hid (own_below OA.out hb)
    clear hb y0 y1 y2
    have y0 : w4.cell? ⟨w2.heap.size, 0, none⟩ = some (.int .i64 0) := K2.out.cell 0
    have y1 : w4.cell? ⟨w2.heap.size, 1, none⟩ = some (.slice B 0 d) := K2.out.cell 1
    have y2 : w4.cell? ⟨w2.heap.size, 2, none⟩ = some (.slice none 0 0) := K2.out.cell 2
    go_wp2_with (fail)
    refine (heldWorld0 0 B d _).mono ?_
    rintro e w5 ⟨rfl, hb⟩
    have BW := Lib.hid (Below.and BW.out hb)
    have K1 := Lib.hid (K1.out.below hb)
    have K2 := Lib.hid (K2.out.below hb)
    have OA := Lib.hid (own_below OA.out hb)
    clear hb y0 y1 y2
    go_wp2_with (fail)
    refine (implNewW H1.out H2.out _).mono ?_
    rintro e w6 ⟨E, f, rfl, hoE, hb⟩
    have BW := Lib.hid ((Below.and BW.out hb).alloc (Below.and BW.out hb).size (.cells #[.int .i64 0, .slice E 0 f, .slice none 0 0] 27))
    have K1 := Lib.hid ((K1.out.below hb).alloc (.cells #[.int .i64 0, .slice E 0 f, .slice none 0 0] 27))
    have K2 := Lib.hid ((K2.out.below hb).alloc (.cells #[.int .i64 0, .slice E 0 f, .slice none 0 0] 27))
    have OA := Lib.hid ((own_below OA.out hb).alloc (.cells #[.int .i64 0, .slice E 0 f, .slice none 0 0] 27))
    have OE : Hid ((w6.alloc (.cells #[.int .i64 0, .slice E 0 f, .slice none 0 0] 27)).ownsRow w5.heap.size 47 7 (.slice E 0 f) 0 ((newK 0).flatMap RpP.cells)) := hoE.alloc _
    clear hb hoE
    have x0 : (w6.alloc (.cells #[.int .i64 0, .slice E 0 f, .slice none 0 0] 27)).cell? ⟨w1.heap.size, 0, none⟩ = some (.int .i64 0) := K1.out.cell 0
    have x1 : (w6.alloc (.cells #[.int .i64 0, .slice E 0 f, .slice none 0 0] 27)).cell? ⟨w1.heap.size, 1, none⟩ = some (.slice A 0 a) := K1.out.cell 1
    have x2 : (w6.alloc (.cells #[.int .i64 0, .slice E 0 f, .slice none 0 0] 27)).cell? ⟨w1.heap.size, 2, none⟩ = some (.slice none 0 0) := K1.out.cell 2
    go_wp2_with (fail)
    refine (eqWorldNew 0 0 (by omega) E A f a _ (Rd.of_own RpP.len OE.out (newK_len _)) (Rd.of_own RpP.len OA.out (newK_len _))).mono ?_
    rintro e w7 ⟨rfl, hb⟩
    have BW := Lib.hid (Below.and BW.out hb)
    have K1 := Lib.hid (K1.out.below hb)
    have K2 := Lib.hid (K2.out.below hb)
    have OA := Lib.hid (own_below OA.out hb)
    clear hb x0 x1 x2
    have y0 : w7.cell? ⟨w2.heap.size, 0, none⟩ = some (.int .i64 0) := K2.out.cell 0
    have y1 : w7.cell? ⟨w2.heap.size, 1, none⟩ = some (.slice B 0 d) := K2.out.cell 1
    have y2 : w7.cell? ⟨w2.heap.size, 2, none⟩ = some (.slice none 0 0) := K2.out.cell 2
    go_wp2_with (fail)
    refine (heldWorld0 0 B d _).mono ?_
    rintro e w8 ⟨rfl, hb⟩
    have BW := Lib.hid (Below.and BW.out hb)
    have K1 := Lib.hid (K1.out.below hb)
    have K2 := Lib.hid (K2.out.below hb)
    have OA := Lib.hid (own_below OA.out hb)
    clear hb y0 y1 y2
    go_wp2
    go_light
    go_ret
    exact ⟨rfl, BW.out⟩
  · have H1 := Lib.hid (show newB bad = bad by unfold newB; rw [hk]; rfl)
    have H2 := Lib.hid (show newL bad = newK 4 by unfold newL; rw [hk]; rfl)
    clear hk
    go_enter Try.func5, Try.ntmps5
    go_wp2_with (fail)
    refine (specNewW H1.out H2.out _).mono ?_
    rintro e w1 ⟨A, a, rfl, hoA, hb⟩
    have BW := Lib.hid (hb.alloc hb.size (.cells #[.int .i64 bad, .slice A 4 a, .slice none 0 0] 27))
    have K1 : Hid (Blk (w1.alloc (.cells #[.int .i64 bad, .slice A 4 a, .slice none 0 0] 27)) w1.heap.size 27 #[.int .i64 bad, .slice A 4 a, .slice none 0 0]) := Blk.new w1
    have OA : Hid ((w1.alloc (.cells #[.int .i64 bad, .slice A 4 a, .slice none 0 0] 27)).ownsRow w.heap.size 47 7 (.slice A 4 a) 4 ((newK 4).flatMap RpP.cells)) := hoA.alloc _
    have LA : Hid (∀ q, (Value.slice A 4 a).ownBlock = some q → q < w1.heap.size) := fun q hq => (hoA.lt q hq).2
    have BS : Hid (w.heap.size ≤ w1.heap.size) := hb.size
    clear hb hoA
    go_wp2_with (fail)
    refine (implNewW H1.out H2.out _).mono ?_
    rintro e w2 ⟨B, d, rfl, hoB, hb⟩
    have lA : w1.heap.size < w2.heap.size := by have := hb.size; simp at this; omega
    have BW := Lib.hid ((Below.and BW.out hb).alloc (Below.and BW.out hb).size (.cells #[.int .i64 bad, .slice B 4 d, .slice none 0 0] 27))
    have K1 := Lib.hid ((K1.out.below hb).alloc (.cells #[.int .i64 bad, .slice B 4 d, .slice none 0 0] 27))
    have OA := Lib.hid ((own_below OA.out hb).alloc (.cells #[.int .i64 bad, .slice B 4 d, .slice none 0 0] 27))
    have K2 : Hid (Blk (w2.alloc (.cells #[.int .i64 bad, .slice B 4 d, .slice none 0 0] 27)) w2.heap.size 27 #[.int .i64 bad, .slice B 4 d, .slice none 0 0]) := Blk.new w2
    have OB : Hid ((w2.alloc (.cells #[.int .i64 bad, .slice B 4 d, .slice none 0 0] 27)).ownsRow (w1.heap.size + 1) 47 7 (.slice B 4 d) 4 ((newK 4).flatMap RpP.cells)) := own_base (hoB.alloc _) (by simp)
    have LB : Hid (∀ q, (Value.slice B 4 d).ownBlock = some q → q < w2.heap.size) := fun q hq => (hoB.lt q hq).2
    clear hb hoB
    have x0 : (w2.alloc (.cells #[.int .i64 bad, .slice B 4 d, .slice none 0 0] 27)).cell? ⟨w1.heap.size, 0, none⟩ = some (.int .i64 bad) := K1.out.cell 0
    have x1 : (w2.alloc (.cells #[.int .i64 bad, .slice B 4 d, .slice none 0 0] 27)).cell? ⟨w1.heap.size, 1, none⟩ = some (.slice A 4 a) := K1.out.cell 1
    have x2 : (w2.alloc (.cells #[.int .i64 bad, .slice B 4 d, .slice none 0 0] 27)).cell? ⟨w1.heap.size, 2, none⟩ = some (.slice none 0 0) := K1.out.cell 2
    go_wp2_with (fail)
    refine (eqWorldNew bad 4 (by omega) B A d a _ (Rd.of_own RpP.len OB.out (newK_len _)) (Rd.of_own RpP.len OA.out (newK_len _))).mono ?_
    rintro e w3 ⟨rfl, hb⟩
    have BW := Lib.hid (Below.and BW.out hb)
    have K1 := Lib.hid (K1.out.below hb)
    have K2 := Lib.hid (K2.out.below hb)
    have OA := Lib.hid (own_below OA.out hb)
    have OB := Lib.hid (own_below OB.out hb)
    clear hb x0 x1 x2
    have y0 : w3.cell? ⟨w2.heap.size, 0, none⟩ = some (.int .i64 bad) := K2.out.cell 0
    have y1 : w3.cell? ⟨w2.heap.size, 1, none⟩ = some (.slice B 4 d) := K2.out.cell 1
    have y2 : w3.cell? ⟨w2.heap.size, 2, none⟩ = some (.slice none 0 0) := K2.out.cell 2
    have l2 := K2.out.lt
    go_wp2_with (fail)
    refine (markWorldNew bad (w1.heap.size + 1) B d _ OB.out (by omega)).mono ?_
    rintro e w4 ⟨rfl, ho4, hg⟩
    have NB : ∀ q, (Value.slice B 4 d).ownBlock = some q → w1.heap.size + 1 ≤ q ∧ q < w2.heap.size := fun q hq => ⟨(own_block_ge OB.out q hq).1, LB.out q hq⟩
    have BW := Lib.hid (Below.trans BW.out (Below.of_grown hg BW.out.size (fun q hq => by have := (NB q hq).1; have := BS.out; omega)))
    have K1 := Lib.hid (K1.out.grown hg (fun e => by have := (NB _ e.symm).1; omega))
    have K2 := Lib.hid (K2.out.grown hg (fun e => by have := (NB _ e.symm).2; omega))
    have OA := Lib.hid (OA.out.kept hg (by
      rcases hq : (Value.slice A 4 a).ownBlock with _ | x
      · exact .inl rfl
      · exact .inr fun e => by have := LA.out x hq; have := (NB x e.symm).1; omega))
    have OB := Lib.hid ho4
    clear ho4 hg NB y0 y1 y2
    have y0 : w4.cell? ⟨w2.heap.size, 0, none⟩ = some (.int .i64 bad) := K2.out.cell 0
    have y1 : w4.cell? ⟨w2.heap.size, 1, none⟩ = some (.slice B 4 d) := K2.out.cell 1
    have y2 : w4.cell? ⟨w2.heap.size, 2, none⟩ = some (.slice none 0 0) := K2.out.cell 2
    go_wp2_with (fail)
    refine (heldWorldNew bad (w1.heap.size + 1) B d _ OB.out).mono ?_
    rintro e w5 ⟨rfl, hb⟩
    have BW := Lib.hid (Below.and BW.out hb)
    have K1 := Lib.hid (K1.out.below hb)
    have K2 := Lib.hid (K2.out.below hb)
    have OA := Lib.hid (own_below OA.out hb)
    have OB := Lib.hid (own_below OB.out hb)
    clear hb y0 y1 y2
    go_wp2_with (fail)
    refine (implNewW H1.out H2.out _).mono ?_
    rintro e w6 ⟨E, f, rfl, hoE, hb⟩
    have BW := Lib.hid ((Below.and BW.out hb).alloc (Below.and BW.out hb).size (.cells #[.int .i64 bad, .slice E 4 f, .slice none 0 0] 27))
    have K1 := Lib.hid ((K1.out.below hb).alloc (.cells #[.int .i64 bad, .slice E 4 f, .slice none 0 0] 27))
    have K2 := Lib.hid ((K2.out.below hb).alloc (.cells #[.int .i64 bad, .slice E 4 f, .slice none 0 0] 27))
    have OA := Lib.hid ((own_below OA.out hb).alloc (.cells #[.int .i64 bad, .slice E 4 f, .slice none 0 0] 27))
    have OB := Lib.hid ((own_below OB.out hb).alloc (.cells #[.int .i64 bad, .slice E 4 f, .slice none 0 0] 27))
    have OE : Hid ((w6.alloc (.cells #[.int .i64 bad, .slice E 4 f, .slice none 0 0] 27)).ownsRow w5.heap.size 47 7 (.slice E 4 f) 4 ((newK 4).flatMap RpP.cells)) := hoE.alloc _
    clear hb hoE
    have x0 : (w6.alloc (.cells #[.int .i64 bad, .slice E 4 f, .slice none 0 0] 27)).cell? ⟨w1.heap.size, 0, none⟩ = some (.int .i64 bad) := K1.out.cell 0
    have x1 : (w6.alloc (.cells #[.int .i64 bad, .slice E 4 f, .slice none 0 0] 27)).cell? ⟨w1.heap.size, 1, none⟩ = some (.slice A 4 a) := K1.out.cell 1
    have x2 : (w6.alloc (.cells #[.int .i64 bad, .slice E 4 f, .slice none 0 0] 27)).cell? ⟨w1.heap.size, 2, none⟩ = some (.slice none 0 0) := K1.out.cell 2
    go_wp2_with (fail)
    refine (eqWorldNew bad 4 (by omega) E A f a _ (Rd.of_own RpP.len OE.out (newK_len _)) (Rd.of_own RpP.len OA.out (newK_len _))).mono ?_
    rintro e w7 ⟨rfl, hb⟩
    have BW := Lib.hid (Below.and BW.out hb)
    have K1 := Lib.hid (K1.out.below hb)
    have K2 := Lib.hid (K2.out.below hb)
    have OA := Lib.hid (own_below OA.out hb)
    have OB := Lib.hid (own_below OB.out hb)
    clear hb x0 x1 x2
    have y0 : w7.cell? ⟨w2.heap.size, 0, none⟩ = some (.int .i64 bad) := K2.out.cell 0
    have y1 : w7.cell? ⟨w2.heap.size, 1, none⟩ = some (.slice B 4 d) := K2.out.cell 1
    have y2 : w7.cell? ⟨w2.heap.size, 2, none⟩ = some (.slice none 0 0) := K2.out.cell 2
    go_wp2_with (fail)
    refine (heldWorldNew bad (w1.heap.size + 1) B d _ OB.out).mono ?_
    rintro e w8 ⟨rfl, hb⟩
    have BW := Lib.hid (Below.and BW.out hb)
    have K1 := Lib.hid (K1.out.below hb)
    have K2 := Lib.hid (K2.out.below hb)
    have OA := Lib.hid (own_below OA.out hb)
    have OB := Lib.hid (own_below OB.out hb)
    clear hb y0 y1 y2
    go_wp2
    go_light
    go_ret
    exact ⟨rfl, BW.out⟩

end Go.Proofs.Ytfelhnchnaggmaa
