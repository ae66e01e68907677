/- Contracts of the laws' own helpers over games. -/
import Derived.Test.YtmnephaechgffaaDoorTe
namespace Go.Proofs.YtmnephaechgffaaDoor
open Go.ChangeShapes Go.WideShapes Go.ChangeAt Go.RowKit
set_option linter.unusedVariables false

theorem boxed2 {w w1 : World} {o o' : Obj} (hb : Below ((w.alloc o).alloc o').heap.size ((w.alloc o).alloc o') w1) (k : Nat) : w1.cell? ⟨w.heap.size, k, none⟩ = ((w.alloc o).alloc o').cell? ⟨w.heap.size, k, none⟩ := hb.cell (by simp; omega)
theorem boxed2' {w w1 : World} {o o' : Obj} (hb : Below ((w.alloc o).alloc o').heap.size ((w.alloc o).alloc o') w1) (k : Nat) : w1.cell? ⟨w.heap.size + 1, k, none⟩ = ((w.alloc o).alloc o').cell? ⟨w.heap.size + 1, k, none⟩ := hb.cell (by simp)

abbrev gameV (A : Option Addr) (n a : Nat) (B : Option Addr) (m b : Nat) (C : Option Addr) (l c : Nat) : Value := .agg #[.slice A n a, .slice B m b, .slice C l c]

theorem below_alloc2 (w : World) (o o' : Obj) : Below w.heap.size w ((w.alloc o).alloc o') := ((Below.refl _ _).alloc (Nat.le_refl _) _).alloc (by simp) _

theorem boxed1 {w w1 : World} {o : Obj} {row : Option Nat} (hg : (w.alloc o).grownBy w1 row) (hr : row ≠ some w.heap.size) (k : Nat) : w1.cell? ⟨w.heap.size, k, none⟩ = (w.alloc o).cell? ⟨w.heap.size, k, none⟩ :=
  World.cell?_of_block (w := w.alloc o) (hg.block w.heap.size (by simp) (Ne.symm hr))

section
variable {w w' : World} {lo hi : Nat} {A : Option Addr} {a : Nat} {B : Option Addr} {b : Nat} {C : Option Addr} {c : Nat} {E : List Fig} {F L : List Int}

end

end Go.Proofs.YtmnephaechgffaaDoor
