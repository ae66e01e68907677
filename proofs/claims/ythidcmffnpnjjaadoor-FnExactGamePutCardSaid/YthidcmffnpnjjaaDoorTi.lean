/- The exact law of a new game, walked. -/
import Derived.Test.YthidcmffnpnjjaaDoorZT
namespace Go.Proofs.YthidcmffnpnjjaaDoor
open Go.ChangeShapes Go.WideShapes Go.ChangeAt Go.RowKit
set_option linter.unusedVariables false

theorem alloc_size (w : World) (o : Obj) : (w.alloc o).heap.size = w.heap.size + 1 := by simp

theorem at_old {w : World} {g : Nat} {cs : Array Value} {t : TypeId} (h : w.heap[g]? = some (.cells cs t)) (o : Obj) : (w.alloc o).heap[g]? = some (.cells cs t) := by
  have hlt : g < w.heap.size := by
    rcases Nat.lt_or_ge g w.heap.size with h1 | h1
    · exact h1
    · rw [Array.getElem?_eq_none h1] at h
      cases h
  rw [Below.heap_alloc _ _ _ hlt, h]

theorem three_cells {w : World} {g : Nat} {u0 u1 u2 : Value} {t : TypeId} (h : w.heap[g]? = some (.cells #[u0, u1, u2] t)) :
    w.cell? ⟨g, 0, none⟩ = some u0 ∧ w.cell? ⟨g, 1, none⟩ = some u1 ∧ w.cell? ⟨g, 2, none⟩ = some u2 := by
  have k := fun j => cell_of_row w g j _ t (0, 0) h
  exact ⟨by simpa using k 0, by simpa using k 1, by simpa using k 2⟩

/-- eqGame at two games of the call's own that are alike. -/
theorem eqGame_new {w : World} {lo hi lo' hi' : Nat} {A B C A' B' C' : Option Addr} {a b c a' b' c' : Nat} {E : List Fig} {F L : List Int} (h : GameAt w lo hi A a B b C c E F L) (h' : GameAt w lo' hi' A' a' B' b' C' c' E F L)
    (n m l : Nat) (hn : E.length = n) (hm : F.length = m) (hl : L.length = l) :
    Calls Tryd.prog 8 #[gameV A n a B m b C l c, gameV A' n a' B' m b' C' l c'] w fun e w' => e = .returned (.bool true) ∧ Below w.heap.size w w' := by
  subst hn hm hl
  obtain ⟨_, _, _, m1⟩ := own_form h.ents
  obtain ⟨_, _, _, m2⟩ := own_form h.floor
  obtain ⟨_, _, _, m3⟩ := own_form h.last
  have := eqGame A B C A' B' C' a b c a' b' c' E E F F L L w m1 m2 m2 m3 m3 (RdF.of_own h.ents) (RdI.of_own h.floor) (RdI.of_own h.last) (RdF.of_own h'.ents) (RdI.of_own h'.floor) (RdI.of_own h'.last)
  simpa using this

/-- A game's cells hold marks, in order, from 1 on. -/
structure Marked (w : World) (A B C : Option Addr) (n m l : Nat) : Prop where
  ents : RdM w A (n * 5) 1
  floor : RdM w B m (1 + 5 * (n : Int))
  last : RdM w C l (1 + 5 * (n : Int) + (m : Int))

theorem Marked.below {w w' : World} {A B C : Option Addr} {n m l : Nat} (h : Marked w A B C n m l) (hb : Below w.heap.size w w') : Marked w' A B C n m l := ⟨h.ents.below hb, h.floor.below hb, h.last.below hb⟩

end Go.Proofs.YthidcmffnpnjjaaDoor
