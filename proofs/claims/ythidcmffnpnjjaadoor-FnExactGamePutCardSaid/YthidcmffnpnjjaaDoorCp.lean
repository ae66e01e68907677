/- The exact law of GameOk, walked. -/
import Derived.Test.YthidcmffnpnjjaaDoorTn
import Derived.Test.YthidcmffnpnjjaaDoorTi
import Derived.Test.YthidcmffnpnjjaaDoorCo
namespace Go.Proofs.YthidcmffnpnjjaaDoor
open Go.ChangeShapes Go.WideShapes Go.ChangeAt Go.RowKit
set_option linter.unusedVariables false

set_option maxRecDepth 100000 in
theorem exactGamePut (A : Option Addr) (a : Nat) (B : Option Addr) (b : Nat) (C : Option Addr) (c : Nat) (E : List Fig) (F L : List Int) (w : World) (hE : E.length ≤ maxLen) (hF : F.length ≤ maxLen) (hL : L.length ≤ maxLen)
    (rE : InF w A E) (rF : InI w B F) (rL : InI w C L) (ht : Tab w) :
    Calls Tryd.prog 3 #[gameV A E.length a B F.length b C L.length c] w fun e w' => e = .returned (.bool true) ∧ Below w.heap.size w w' := by
  have z0 : Below w.heap.size w (w.alloc (.cells #[.slice A E.length a, .slice B F.length b, .slice C L.length c] 25)) := (Below.refl _ _).alloc (Nat.le_refl _) _
  have HTab := Lib.hid ht
  clear ht
  have H1 := Lib.hid rE
  have H2 := Lib.hid rF
  have H3 := Lib.hid rL
  have K0 := Lib.hid (Three.new (u0 := .slice A E.length a) (u1 := .slice B F.length b) (u2 := .slice C L.length c) (t := 25) w)
  have Z0 := Lib.hid z0
  clear rE rF rL z0
  go_enter Tryd.func3, Tryd.ntmps3
  go_wp2_with (fail)
  refine (szGame A _ a B _ b C _ c _ hE hF hL).mono ?_
  rintro e w1 ⟨rfl, h1⟩
  have Z1 := Lib.hid (Below.and Z0.out h1)
  have K1 := Lib.hid (Three.below K0.out h1 (by simp))
  clear h1
  by_cases hsz : ¬ E.length + F.length + L.length ≤ 1048576
  · rw [szOf, if_neg hsz]
    go_wp2
    go_light
    go_ret
    exact ⟨rfl, Z1.out⟩
  have hsz' : E.length + F.length + L.length ≤ 1048576 := by omega
  clear hsz
  rw [szOf, if_pos hsz']
  have d0 : decide ((1048576 : Int) - E.length - F.length - L.length < 0) = false := by simp; omega
  obtain ⟨p0, p1, p2⟩ := K1.out.cells
  go_wp2_with (fail)
  -- the model's answer
  refine (toGame A a B b C c E F L _ (by omega) (by omega) (by omega) (H1.out.below Z1.out) (H2.out.below Z1.out) (H3.out.below Z1.out)).mono ?_
  rintro e w2 ⟨A2, a2, B2, b2, C2, c2, rfl, g2, h2⟩
  have Z2 := Lib.hid (Below.and Z1.out h2)
  have K2 := Lib.hid (Three.below K1.out h2 K1.out.lt)
  have G2 := Lib.hid g2
  clear g2 h2 p0 p1 p2
  go_wp2_with (fail)
  refine (specGamePut A2 a2 B2 b2 C2 c2 E F L _ (by omega) (by omega) (by omega) (RdF.of_own G2.out.ents) (RdI.of_own G2.out.floor) (RdI.of_own G2.out.last)).mono ?_
  rintro e w3 ⟨rfl, h3⟩
  have Z3 := Lib.hid (Below.and Z2.out h3)
  have K3 := Lib.hid (Three.below K2.out h3 K2.out.lt)
  obtain ⟨p0, p1, p2⟩ := K3.out.cells
  clear h3
  go_wp2_with (fail)
  -- the program's
  refine (toGame A a B b C c E F L _ (by omega) (by omega) (by omega) (H1.out.below Z3.out) (H2.out.below Z3.out) (H3.out.below Z3.out)).mono ?_
  rintro e w4 ⟨A4, a4, B4, b4, C4, c4, rfl, g4, h4⟩
  have zb : Below w4.heap.size w4 (w4.alloc (.cells #[.slice A4 E.length a4, .slice B4 F.length b4, .slice C4 L.length c4] 30)) := (Below.refl _ _).alloc (Nat.le_refl _) _
  have Z4 := Lib.hid (Below.and (Below.and Z3.out h4) zb)
  have K4 := Lib.hid (Three.below (Three.below K3.out h4 K3.out.lt) zb (Three.below K3.out h4 K3.out.lt).lt)
  have X4 := Lib.hid (Three.new (u0 := .slice A4 E.length a4) (u1 := .slice B4 F.length b4) (u2 := .slice C4 L.length c4) (t := 30) w4)
  have G4 := Lib.hid (g4.below zb)
  clear g4 h4 zb p0 p1 p2
  go_wp2_with (fail)
  refine (implGamePut A4 a4 B4 b4 C4 c4 E F L _ (by omega) (by omega) (by omega) (RdF.of_own G4.out.ents) (RdI.of_own G4.out.floor) (RdI.of_own G4.out.last) (HTab.out.below Z4.out)).mono ?_
  rintro e w5 ⟨rfl, h5⟩
  have Z5 := Lib.hid (Below.and Z4.out h5)
  have K5 := Lib.hid (Three.below K4.out h5 K4.out.lt)
  have X5 := Lib.hid (Three.below X4.out h5 X4.out.lt)
  have G5 := Lib.hid (G4.out.below h5)
  obtain ⟨p0, p1, p2⟩ := K5.out.cells
  obtain ⟨q0, q1, q2⟩ := X5.out.cells
  obtain ⟨T, hT⟩ : ∃ T, putG E F L = T := ⟨_, rfl⟩
  rw [hT]
  clear hT
  clear h5
  go_wp2_with (fail)
  have KS := Lib.hid (show ∀ w1, Below w5.heap.size w5 w1 → (fun w1 => Below w5.heap.size w5 w1 ∧ w1.cell? ⟨w.heap.size, 0, none⟩ = some (.slice A E.length a) ∧ w1.cell? ⟨w.heap.size, 1, none⟩ = some (.slice B F.length b) ∧ w1.cell? ⟨w.heap.size, 2, none⟩ = some (.slice C L.length c) ∧ w1.cell? ⟨w4.heap.size, 0, none⟩ = some (.slice A4 E.length a4) ∧ w1.cell? ⟨w4.heap.size, 1, none⟩ = some (.slice B4 F.length b4) ∧ w1.cell? ⟨w4.heap.size, 2, none⟩ = some (.slice C4 L.length c4)) w1 from fun w1 h => ⟨h, cell_kept h p0, cell_kept h p1, cell_kept h p2, cell_kept h q0, cell_kept h q1, cell_kept h q2⟩)
  go_region_held3 (fun w1 => Below w5.heap.size w5 w1 ∧ w1.cell? ⟨w.heap.size, 0, none⟩ = some (.slice A E.length a) ∧ w1.cell? ⟨w.heap.size, 1, none⟩ = some (.slice B F.length b) ∧ w1.cell? ⟨w.heap.size, 2, none⟩ = some (.slice C L.length c) ∧ w1.cell? ⟨w4.heap.size, 0, none⟩ = some (.slice A4 E.length a4) ∧ w1.cell? ⟨w4.heap.size, 1, none⟩ = some (.slice B4 F.length b4) ∧ w1.cell? ⟨w4.heap.size, 2, none⟩ = some (.slice C4 L.length c4))
    (first | exact KS.out _ hnew2 | exact KS.out _ hnew | exact KS.out _ (Below.refl _ _).drew | go_keep)
    (first | (go_at_call 6; refine (toGame A a B b C c E F L _ (by omega) (by omega) (by omega) (H1.out.below (Below.and Z5.out (Below.refl _ _).drew)) (H2.out.below (Below.and Z5.out (Below.refl _ _).drew)) (H3.out.below (Below.and Z5.out (Below.refl _ _).drew))).mono ?_; rintro e w6 ⟨A6, a6, B6, b6, C6, c6, rfl, g6, h6⟩; have hnew := Below.back h6 (by assumption)) | (go_at_call 8; refine (eqGame_new (G5.out.below hnew) g6 E.length F.length L.length rfl rfl rfl).mono ?_; rintro e w7 ⟨rfl, h7⟩; have hnew2 := Below.and hnew h7))
  rename_i hs
  have g1 := hs.1
  clear hs
  go_wp2
  go_light
  go_ret
  exact ⟨rfl, Below.and Z5.out g1⟩
end Go.Proofs.YthidcmffnpnjjaaDoor
