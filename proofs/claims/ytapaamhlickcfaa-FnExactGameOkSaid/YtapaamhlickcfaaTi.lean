/- The exact law of a new game, walked. -/
import Derived.Test.YtapaamhlickcfaaTh
namespace Go.Proofs.Ytapaamhlickcfaa
open Go.ChangeShapes Go.WideShapes Go.ChangeAt Go.RowKit
set_option linter.unusedVariables false

theorem alloc_size (w : World) (o : Obj) : (w.alloc o).heap.size = w.heap.size + 1 := by simp

theorem at_old {w : World} {g : Nat} {cs : Array Value} {t : TypeId} (h : w.heap[g]? = some (.cells cs t)) (o : Obj) : (w.alloc o).heap[g]? = some (.cells cs t) := by
  have hlt : g < w.heap.size := by
    rcases Nat.lt_or_ge g w.heap.size with h1 | h1
    · exact h1
    · rw [Array.getElem?_eq_none h1] at h
      cases h
  rw [Below.heap_alloc _ _ _ hlt, h]

theorem three_cells {w : World} {g : Nat} {u0 u1 u2 : Value} {t : TypeId} (h : w.heap[g]? = some (.cells #[u0, u1, u2] t)) :
    w.cell? ⟨g, 0, none⟩ = some u0 ∧ w.cell? ⟨g, 1, none⟩ = some u1 ∧ w.cell? ⟨g, 2, none⟩ = some u2 := by
  have k := fun j => cell_of_row w g j _ t (0, 0) h
  exact ⟨by simpa using k 0, by simpa using k 1, by simpa using k 2⟩

/-- eqGame at two games of the call's own that are alike. -/
theorem eqGame_new {w : World} {lo hi lo' hi' : Nat} {A B C A' B' C' : Option Addr} {a b c a' b' c' : Nat} {E : List Fig} {F L : List Int} (h : GameAt w lo hi A a B b C c E F L) (h' : GameAt w lo' hi' A' a' B' b' C' c' E F L)
    (n m l : Nat) (hn : E.length = n) (hm : F.length = m) (hl : L.length = l) :
    Calls Try.prog 32 #[gameV A n a B m b C l c, gameV A' n a' B' m b' C' l c'] w fun e w' => e = .returned (.bool true) ∧ Below w.heap.size w w' := by
  subst hn hm hl
  obtain ⟨_, _, _, m1⟩ := own_form h.ents
  obtain ⟨_, _, _, m2⟩ := own_form h.floor
  obtain ⟨_, _, _, m3⟩ := own_form h.last
  have := eqGame A B C A' B' C' a b c a' b' c' E E F F L L w m1 m2 m2 m3 m3 (RdF.of_own h.ents) (RdI.of_own h.floor) (RdI.of_own h.last) (RdF.of_own h'.ents) (RdI.of_own h'.floor) (RdI.of_own h'.last)
  simpa using this

/-- A game's cells hold marks, in order, from 1 on. -/
structure Marked (w : World) (A B C : Option Addr) (n m l : Nat) : Prop where
  ents : RdM w A (n * 5) 1
  floor : RdM w B m (1 + 5 * (n : Int))
  last : RdM w C l (1 + 5 * (n : Int) + (m : Int))

theorem Marked.below {w w' : World} {A B C : Option Addr} {n m l : Nat} (h : Marked w A B C n m l) (hb : Below w.heap.size w w') : Marked w' A B C n m l := ⟨h.ents.below hb, h.floor.below hb, h.last.below hb⟩

theorem mark_game {w : World} {lo hi : Nat} {A B C : Option Addr} {a b c : Nat} {E : List Fig} {F L : List Int} (h : GameAt w lo hi A a B b C c E F L)
    (n m l : Nat) (hn : E.length = n) (hm : F.length = m) (hl : L.length = l) (v : Int) (hv : v = 1 + 5 * (n : Int) + (m : Int) + (l : Int)) (hE : n ≤ 1048576) (hF : m ≤ 1048576) (hL : l ≤ 1048576) (hhi : hi ≤ w.heap.size) :
    Calls Try.prog 33 #[gameV A n a B m b C l c, .int .i64 1] w fun e w' => e = .returned (.int .i64 v) ∧ Keeps lo hi w w' ∧ Marked w' A B C n m l := by
  subst hn hm hl hv
  exact (markGame 1 h (by omega) (by omega) hE hF hL hhi).mono fun e w' ⟨he, hk, h1, h2, h3⟩ => ⟨he, hk, h1, h2, h3⟩

theorem held_game {w : World} {A B C : Option Addr} {a b c : Nat} (n m l : Nat) (h : Marked w A B C n m l) (v : Int) (hv : v = 1 + 5 * (n : Int) + (m : Int) + (l : Int)) (hE : n ≤ 1048576) (hF : m ≤ 1048576) (hL : l ≤ 1048576) :
    Calls Try.prog 34 #[gameV A n a B m b C l c, .int .i64 1] w fun e w' => e = .returned (.int .i64 v) ∧ Below w.heap.size w w' := by
  subst hv
  exact heldGame 1 (by omega) (by omega) hE hF hL h.ents h.floor h.last

set_option maxRecDepth 100000 in
theorem exactGameNew (w : World) :
    Calls Try.prog 10 #[] w fun e w' => e = .returned (.bool true) ∧ Below w.heap.size w w' := by
  go_enter Try.func10, Try.ntmps10
  go_wp2_with (fail)
  refine (specGameNew _).mono ?_
  rintro e w1 ⟨B, b, C, c, rfl, hg0, hb0⟩
  have G0 := Lib.hid hg0
  have B0 := Lib.hid hb0
  clear hg0 hb0
  go_wp2_with (fail)
  refine (gameNew _).mono ?_
  rintro e w2 ⟨B2, b2, C2, c2, rfl, hg1, hb1⟩
  have hk1 := res_block hb1
  have G0 := Lib.hid ((G0.out.below ((Below.refl _ _).alloc (Nat.le_refl _) (.cells #[.slice none 0 0, .slice B 16 b, .slice C 4 c] 32))).below hb1)
  have B1 := Lib.hid (Below.trans B0.out (Below.trans ((Below.refl _ _).alloc (Nat.le_trans (Nat.le_refl _) B0.out.size) (.cells #[.slice none 0 0, .slice B 16 b, .slice C 4 c] 32)) (hb1.mono (by have := B0.out.size; simp; omega))))
  have hs1 : w.heap.size ≤ w1.heap.size ∧ w1.heap.size + 1 ≤ w2.heap.size := ⟨B0.out.size, by have := hb1.size; simpa using this⟩
  have G1 := Lib.hid hg1
  clear hg1 hb1 B0
  have z2 := Below.alloc (Below.refl w2.heap.size w2) (Nat.le_refl _) (.cells #[.slice none 0 0, .slice B2 16 b2, .slice C2 4 c2] 32)
  have k1 := at_old hk1 (.cells #[.slice none 0 0, .slice B2 16 b2, .slice C2 4 c2] 32)
  have k2 := heap_alloc_new w2 (.cells #[.slice none 0 0, .slice B2 16 b2, .slice C2 4 c2] 32)
  have G0 := Lib.hid (G0.out.below z2)
  have G1 := Lib.hid (G1.out.below z2)
  have B1 := Lib.hid (Below.trans B1.out (z2.mono (by omega)))
  have hs2 : w2.heap.size < (w2.alloc (.cells #[.slice none 0 0, .slice B2 16 b2, .slice C2 4 c2] 32)).heap.size := by simp
  obtain ⟨q0, q1, q2⟩ := three_cells k1
  have K1 := Lib.hid k1
  have K2 := Lib.hid k2
  clear hk1 k1 k2 z2
  go_wp2_with (fail)
  refine (eqGame_new G1.out G0.out 0 16 4 rfl (floorAt_length 20) rfl).mono ?_
  rintro e w3 ⟨rfl, h3⟩
  have k1 := (h3.block w1.heap.size (by omega)).trans K1.out
  have k2 := (h3.block w2.heap.size (by omega)).trans K2.out
  have G0 := Lib.hid (G0.out.below h3)
  have G1 := Lib.hid (G1.out.below h3)
  have B1 := Lib.hid (Below.trans B1.out (h3.mono (by omega)))
  have hs3 : w2.heap.size < w3.heap.size := by have := h3.size; omega
  obtain ⟨q0, q1, q2⟩ := three_cells k1
  obtain ⟨p0, p1, p2⟩ := three_cells k2
  have K1 := Lib.hid k1
  have K2 := Lib.hid k2
  clear k1 k2 h3
  go_wp2_with (fail)
  refine (mark_game (hi := w2.heap.size) G1.out 0 16 4 rfl (floorAt_length 20) rfl 21 (by omega) (by omega) (by omega) (by omega) (by omega)).mono ?_
  rintro e w4 ⟨rfl, h4, r1⟩
  rw [alloc_size] at h4
  have k1 := (h4.block w1.heap.size (by omega) (by omega)).trans K1.out
  have k2 := (h4.block w2.heap.size (by omega) (by omega)).trans K2.out
  have G0 := Lib.hid (G0.out.keeps h4 (.inl (by omega)))
  have B1 := Lib.hid (Below.trans B1.out (h4.below (B := w.heap.size) (by omega) (by omega)))
  have hs4 : w2.heap.size < w4.heap.size := by have := h4.size; omega
  obtain ⟨q0, q1, q2⟩ := three_cells k1
  obtain ⟨p0, p1, p2⟩ := three_cells k2
  have K1 := Lib.hid k1
  have K2 := Lib.hid k2
  have R1 := Lib.hid r1
  clear r1 k1 k2 h4
  go_wp2_with (fail)
  refine (held_game 0 16 4 R1.out 21 (by omega) (by omega) (by omega) (by omega)).mono ?_
  rintro e w5 ⟨rfl, h5⟩
  have k1 := (h5.block w1.heap.size (by omega)).trans K1.out
  have k2 := (h5.block w2.heap.size (by omega)).trans K2.out
  have G0 := Lib.hid (G0.out.below h5)
  have R1 := Lib.hid (R1.out.below h5)
  have B1 := Lib.hid (Below.trans B1.out (h5.mono (by omega)))
  have hs5 : w2.heap.size < w5.heap.size := by have := h5.size; omega
  have K1 := Lib.hid k1
  have K2 := Lib.hid k2
  clear k1 k2 h5
  go_wp2_with (fail)
  refine (gameNew _).mono ?_
  rintro e w6 ⟨B3, b3, C3, c3, rfl, hg, h6⟩
  have z6 := Below.alloc (Below.refl w6.heap.size w6) (Nat.le_refl _) (.cells #[.slice none 0 0, .slice B3 16 b3, .slice C3 4 c3] 32)
  have k1 := at_old ((h6.block w1.heap.size (by omega)).trans K1.out) (.cells #[.slice none 0 0, .slice B3 16 b3, .slice C3 4 c3] 32)
  have k2 := at_old ((h6.block w2.heap.size (by omega)).trans K2.out) (.cells #[.slice none 0 0, .slice B3 16 b3, .slice C3 4 c3] 32)
  have G0 := Lib.hid ((G0.out.below h6).below z6)
  have G3 := Lib.hid (hg.below z6)
  have R1 := Lib.hid ((R1.out.below h6).below z6)
  have hs6 : w2.heap.size < w6.heap.size := by have := h6.size; omega
  have hs6' : w2.heap.size < (w6.alloc (.cells #[.slice none 0 0, .slice B3 16 b3, .slice C3 4 c3] 32)).heap.size := by simp; omega
  have B1 := Lib.hid (Below.trans (Below.trans B1.out (h6.mono (by omega))) (z6.mono (by omega)))
  obtain ⟨q0, q1, q2⟩ := three_cells k1
  have K1 := Lib.hid k1
  have K2 := Lib.hid k2
  clear k1 k2 h6 z6 hg
  go_wp2_with (fail)
  refine (eqGame_new G3.out G0.out 0 16 4 rfl (floorAt_length 20) rfl).mono ?_
  rintro e w7 ⟨rfl, h7⟩
  have k2 := (h7.block w2.heap.size (by omega)).trans K2.out
  have R1 := Lib.hid (R1.out.below h7)
  have B1 := Lib.hid (Below.trans B1.out (h7.mono (by have := h7.size; simp; omega)))
  obtain ⟨p0, p1, p2⟩ := three_cells k2
  clear k2
  go_wp2_with (fail)
  refine (held_game 0 16 4 R1.out 21 (by omega) (by omega) (by omega) (by omega)).mono ?_
  rintro e w8 ⟨rfl, h8⟩
  have B1 := Lib.hid (Below.trans B1.out (h8.mono (by have := h7.size; simp at this; omega)))
  clear h7 h8
  go_wp2
  go_light
  go_ret
  exact ⟨rfl, B1.out⟩
end Go.Proofs.Ytapaamhlickcfaa
