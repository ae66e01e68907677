/- The model's: a figure joins. -/
import Derived.Test.YtnpdlpkomfegfaaGk
namespace Go.Proofs.Ytnpdlpkomfegfaa
open Go.ChangeShapes Go.WideShapes Go.ChangeAt Go.RowKit
set_option linter.unusedVariables false
set_option linter.unusedSimpArgs false

/-- A game's rows read, wherever they lie. -/
structure GmR (w : World) (A : Option Addr) (a : Nat) (B : Option Addr) (b : Nat) (C : Option Addr) (d : Nat) (E : List Fig) (F L : List Int) : Prop where
 rE : RdF w A E
 rF : RdI w B F
 rL : RdI w C L
 cA : E.length ≤ a
 cB : F.length ≤ b
 cC : L.length ≤ d
 nA : (A = none ∧ a = 0) ∨ ∃ g, A = some ⟨g, 0, none⟩
 nB : (B = none ∧ b = 0) ∨ ∃ g, B = some ⟨g, 0, none⟩
 nC : (C = none ∧ d = 0) ∨ ∃ g, C = some ⟨g, 0, none⟩
 lA : ∀ x, A = some ⟨x, 0, none⟩ → x < w.heap.size
 lB : ∀ x, B = some ⟨x, 0, none⟩ → x < w.heap.size
 lC : ∀ x, C = some ⟨x, 0, none⟩ → x < w.heap.size
/-- A game that reads so, wherever its last numbers begin (they begin their row if they are four). -/
structure GmL (w : World) (A B C : Option Addr) (E : List Fig) (F L : List Int) : Prop where
 rE : RdF w A E
 rF : RdI w B F
 rL : RdJ w C L
 r4 : L.length = 4 → RdI w C L
theorem GmL.below {w w' : World} {A B C : Option Addr} {E : List Fig} {F L : List Int} (h : GmL w A B C E F L) (hb : Below w.heap.size w w') : GmL w' A B C E F L :=
 ⟨RdF.below h.rE hb, RdI.below h.rF hb, RdJ.below h.rL hb, fun e => RdI.below (h.r4 e) hb⟩
theorem GmR.gl {w : World} {A : Option Addr} {a : Nat} {B : Option Addr} {b : Nat} {C : Option Addr} {d : Nat} {E : List Fig} {F L : List Int} (h : GmR w A a B b C d E F L) : GmL w A B C E F L := ⟨h.rE, h.rF, h.rL.j, fun _ => h.rL⟩
theorem GmR.below {w w' : World} {A : Option Addr} {a : Nat} {B : Option Addr} {b : Nat} {C : Option Addr} {d : Nat} {E : List Fig} {F L : List Int} (h : GmR w A a B b C d E F L) (hb : Below w.heap.size w w') : GmR w' A a B b C d E F L :=
 ⟨RdF.below h.rE hb, RdI.below h.rF hb, RdI.below h.rL hb, h.cA, h.cB, h.cC, h.nA, h.nB, h.nC, fun x hx => Nat.lt_of_lt_of_le (h.lA x hx) hb.size, fun x hx => Nat.lt_of_lt_of_le (h.lB x hx) hb.size, fun x hx => Nat.lt_of_lt_of_le (h.lC x hx) hb.size⟩
theorem own_cap {w : World} {base : Nat} {e : TypeId} {size : Nat} {A : Option Addr} {c n : Nat} {xs : List Value} (h : w.ownsRow base e size (.slice A n c) n xs) : n ≤ c ∧ ((A = none ∧ c = 0) ∨ ∃ g, A = some ⟨g, 0, none⟩) := by
 rcases h.2 with ⟨h1, h2⟩ | ⟨g, cap, cur, h1, _, _, h4, _⟩
 · simp only [Value.slice.injEq] at h1
   exact ⟨by omega, .inl ⟨h1.1, h1.2.2⟩⟩
 · simp only [Value.slice.injEq] at h1
   exact ⟨by omega, .inr ⟨g, h1.1⟩⟩
theorem own_at {w : World} {base : Nat} {e : TypeId} {size : Nat} {A : Option Addr} {c n : Nat} {xs : List Value} (h : w.ownsRow base e size (.slice A n c) n xs) : ∀ x, A = some ⟨x, 0, none⟩ → base ≤ x ∧ x < w.heap.size := fun x hx => by
 subst hx
 exact own_block_ge h x rfl
theorem cell_far {w : World} {g j p o : Nat} {u v : Value} (h : w.cell? ⟨g, j, none⟩ = some u) (hp : g ≠ p) : (w.setCell ⟨p, o, none⟩ v).cell? ⟨g, j, none⟩ = some u := by
 have : (w.setCell ⟨p, o, none⟩ v).heap[g]? = w.heap[g]? := heap_setCell_other w ⟨p, o, none⟩ g v (by simpa using hp)
 unfold World.cell? at h ⊢
 simp only [this]
 exact h
/-- A cell of a block that holds none of the rows is turned. -/
theorem GmR.put {w : World} {A : Option Addr} {a : Nat} {B : Option Addr} {b : Nat} {C : Option Addr} {d : Nat} {E : List Fig} {F L : List Int} (h : GmR w A a B b C d E F L) (p o : Nat) (v : Value)
 (hA : ∀ x, A = some ⟨x, 0, none⟩ → x ≠ p) (hB : ∀ x, B = some ⟨x, 0, none⟩ → x ≠ p) (hC : ∀ x, C = some ⟨x, 0, none⟩ → x ≠ p) : GmR (w.setCell ⟨p, o, none⟩ v) A a B b C d E F L := by
 refine ⟨fun i hi => ?_, fun i hi => ?_, fun i hi => ?_, h.cA, h.cB, h.cC, h.nA, h.nB, h.nC, fun x hx => by simpa using h.lA x hx, fun x hx => by simpa using h.lB x hx, fun x hx => by simpa using h.lC x hx⟩
 · obtain ⟨g, hg, a0, a1, a2, a3, a4⟩ := h.rE i hi
   exact ⟨g, hg, cell_far a0 (hA g hg), cell_far a1 (hA g hg), cell_far a2 (hA g hg), cell_far a3 (hA g hg), cell_far a4 (hA g hg)⟩
 · obtain ⟨g, hg, a0⟩ := h.rF i hi
   exact ⟨g, hg, cell_far a0 (hB g hg)⟩
 · obtain ⟨g, hg, a0⟩ := h.rL i hi
   exact ⟨g, hg, cell_far a0 (hC g hg)⟩
theorem nil_cap {A : Option Addr} {a : Nat} (h : (A = none ∧ a = 0) ∨ ∃ g, A = some ⟨g, 0, none⟩) : A = none → a = 0 := fun e => by
 rcases h with h | ⟨g, h⟩
 · exact h.2
 · rw [h] at e; cases e
section
variable {α : Type} {f : α → List Value} {k : Nat}
end

end Go.Proofs.Ytnpdlpkomfegfaa
