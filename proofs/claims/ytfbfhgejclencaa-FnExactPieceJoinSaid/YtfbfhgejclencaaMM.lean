/- Tp, By, Tq, Tr, Ts, Tt -/
import Derived.Test.YtfbfhgejclencaaMC
import Derived.IntWalk
import Derived.ChangeSlices
import Derived.OpenShut
/- Draws: one number. -/
namespace Go.Proofs.Ytfbfhgejclencaa
open Go.ChangeShapes Go.WideShapes Go.ChangeAt Go.RowKit
set_option linter.unusedVariables false

/-- The slice at A, wherever it lies, reads as n bytes. -/
def InB (w : World) (A : Option Addr) (n : Nat) : Prop := ∀ i, i < n → ∃ (b off : Nat) (u : Int), A = some ⟨b, off, none⟩ ∧ w.cell? ⟨b, off + i, none⟩ = some (.int .u8 u) ∧ 0 ≤ u ∧ u ≤ 255

theorem xor_nat (y : Nat) (hy : y ≤ 100000000) : bits BinOp.xor IntKind.i64 (y : Int) ((y : Int) / 64) = ((y ^^^ (y / 64) : Nat) : Int) := by
  have hlt : y ^^^ (y / 64) < 2 ^ 63 := Nat.xor_lt_two_pow (by omega) (by omega)
  have small : ∀ a : Nat, a < 9223372036854775808 → (BitVec.ofInt 64 (a : Int)).toNat = a := by
    intro a ha
    rw [BitVec.ofInt_natCast, BitVec.toNat_ofNat]
    exact Nat.mod_eq_of_lt (by omega)
  rw [show ((y : Int) / 64) = ((y / 64 : Nat) : Int) from by omega]
  show IntKind.i64.wrap ((BitVec.ofInt 64 (y : Int) ^^^ BitVec.ofInt 64 ((y / 64 : Nat) : Int)).toNat : Int) = _
  rw [BitVec.toNat_xor, small _ (by omega), small _ (by omega)]
  exact IntWalk.i64_in _ (by omega)

/-- What a pick leaves: a number from 0 on, below N; the reader one place on. -/
def Picked (w : World) (R : Nat) (p N : Int) (e : Ending) (w' : World) : Prop := ∃ (v : Int) (m : Nat), 0 ≤ v ∧ v < N ∧ e = .returned (.int .i64 v) ∧ w' = (w.setCell ⟨R, 1, none⟩ (.int .i64 (p + 1))).drewN m

end Go.Proofs.Ytfbfhgejclencaa

/- A code of bytes that came in. -/
namespace Go.Proofs.Ytfbfhgejclencaa
open Go.ChangeShapes Go.WideShapes Go.ChangeAt Go.RowKit
set_option linter.unusedVariables false

theorem in_bytes {H : Type} {enc : TypeId × Value → H} {P : Program} {w : World} {base b0 : Nat} {spare : Nat → Bool} {held : Bool} {r : Reach} {t e : TypeId} {v : Value} {d : DataW H} {p : List MemPlace}
    (ht : P.underlying t = some (.slice e)) (he : P.underlying e = some (.int .u8)) (hc : P.cellsOf e = 1) (hv : Value.okWide P w r b0 t v) (h : DataW.Trod enc P w base spare held t v d p) :
    ∃ (A : Option Addr) (n c : Nat), v = .slice A n c ∧ n ≤ maxLen ∧ n ≤ c ∧ InB w A n := by
  obtain ⟨a0, len, cap, rfl⟩ := okWide_slice ht hv
  obtain ⟨fuel, hf⟩ := h
  rcases open_ints ht he hc hf with ⟨hcs, _⟩ | ⟨a, len', cap', zs, hcs, _, hl, hm, hz, _, hcell, hwz⟩
  · simp only [Value.cells, List.cons.injEq, Value.slice.injEq] at hcs
    obtain ⟨⟨rfl, rfl, rfl⟩, _⟩ := hcs
    exact ⟨none, 0, 0, rfl, Nat.zero_le _, Nat.le_refl _, fun i hi => absurd hi (by simp)⟩
  · simp only [Value.cells, List.cons.injEq, Value.slice.injEq] at hcs
    obtain ⟨⟨rfl, rfl, rfl⟩, _⟩ := hcs
    have hzl : len ≤ zs.length := by rw [hz]; split <;> omega
    refine ⟨some a, len, cap, rfl, by omega, hl, fun i hi => ?_⟩
    have h0 := hcell 0 (by omega)
    rw [show a.add 0 = a from by simp [Addr.add]] at h0
    have ha := addr_of h0
    have hi' := hcell i (by omega)
    rw [ha, add_eq] at hi'
    have hb := range_u8 hwz i
    refine ⟨a.block, a.off, zs.getD i 0, by rw [← ha], hi', ?_, ?_⟩
    · rw [List.getD_eq_getElem?_getD]; exact hb.1
    · rw [List.getD_eq_getElem?_getD]; exact hb.2
end Go.Proofs.Ytfbfhgejclencaa

/- Draws: a reader kept; a request drawn. -/
namespace Go.Proofs.Ytfbfhgejclencaa
open Go.ChangeShapes Go.WideShapes Go.ChangeAt Go.RowKit
set_option linter.unusedVariables false

section
variable {w w' : World} {R : Nat} {A : Option Addr} {n c : Nat} {p : Int}

theorem grownBy_drewN {row : Option Nat} (h : w.grownBy w' row) (m : Nat) : w.grownBy (w'.drewN m) row := ⟨h.os, h.tape, h.output, h.size, h.block⟩
end

end Go.Proofs.Ytfbfhgejclencaa

/- A request drawn. -/
namespace Go.Proofs.Ytfbfhgejclencaa
open Go.ChangeShapes Go.WideShapes Go.ChangeAt Go.RowKit
set_option linter.unusedVariables false

/-- Block g is just these five cells, none frozen. -/
def Five (w : World) (g : Nat) (t : TypeId) (u0 u1 u2 u3 u4 : Value) : Prop := w.heap[g]? = some (.cells #[u0, u1, u2, u3, u4] t)

section
variable {w w' : World} {g : Nat} {t : TypeId} {u0 u1 u2 u3 u4 : Value}
theorem Five.lt (h : Five w g t u0 u1 u2 u3 u4) : g < w.heap.size := by
  unfold Five at h
  rcases Nat.lt_or_ge g w.heap.size with h1 | h1
  · exact h1
  · rw [Array.getElem?_eq_none h1] at h
    cases h
theorem Five.cells (h : Five w g t u0 u1 u2 u3 u4) : w.cell? ⟨g, 0, none⟩ = some u0 ∧ w.cell? ⟨g, 1, none⟩ = some u1 ∧ w.cell? ⟨g, 2, none⟩ = some u2 ∧ w.cell? ⟨g, 3, none⟩ = some u3 ∧ w.cell? ⟨g, 4, none⟩ = some u4 := by
  have k := fun j => cell_of_row w g j _ t (0, 0) h
  exact ⟨by simpa using k 0, by simpa using k 1, by simpa using k 2, by simpa using k 3, by simpa using k 4⟩
theorem Five.frozen (h : Five w g t u0 u1 u2 u3 u4) (j : Nat) : w.frozen? ⟨g, j, none⟩ = false := frozen_of_row w g j _ t h
theorem Five.new (w : World) : Five (w.alloc (.cells #[u0, u1, u2, u3, u4] t)) w.heap.size t u0 u1 u2 u3 u4 := heap_alloc_new w _
theorem Five.grown {row : Option Nat} (h : Five w g t u0 u1 u2 u3 u4) (hb : w.grownBy w' row) (hg : some g ≠ row) : Five w' g t u0 u1 u2 u3 u4 := (hb.block g h.lt hg).trans h
theorem Five.alloc (h : Five w g t u0 u1 u2 u3 u4) (o : Obj) : Five (w.alloc o) g t u0 u1 u2 u3 u4 := h.grown (World.grownBy_alloc w o none) (by simp)
theorem Five.set0 (h : Five w g t u0 u1 u2 u3 u4) (v : Value) : Five (w.setCell ⟨g, 0, none⟩ v) g t v u1 u2 u3 u4 := heap_setCell_same w g 0 _ t v h
theorem Five.set1 (h : Five w g t u0 u1 u2 u3 u4) (v : Value) : Five (w.setCell ⟨g, 1, none⟩ v) g t u0 v u2 u3 u4 := heap_setCell_same w g 1 _ t v h
theorem Five.set2 (h : Five w g t u0 u1 u2 u3 u4) (v : Value) : Five (w.setCell ⟨g, 2, none⟩ v) g t u0 u1 v u3 u4 := heap_setCell_same w g 2 _ t v h
theorem Five.set3 (h : Five w g t u0 u1 u2 u3 u4) (v : Value) : Five (w.setCell ⟨g, 3, none⟩ v) g t u0 u1 u2 v u4 := heap_setCell_same w g 3 _ t v h
theorem Five.set4 (h : Five w g t u0 u1 u2 u3 u4) (v : Value) : Five (w.setCell ⟨g, 4, none⟩ v) g t u0 u1 u2 u3 v := heap_setCell_same w g 4 _ t v h
end

theorem grown_new {a b c : World} {R x : Nat} (h : a.grownBy b (some R)) (k : b.grownBy c (some x)) (hx : a.heap.size ≤ x) : a.grownBy c (some R) :=
  ⟨k.os.trans h.os, k.tape.trans h.tape, k.output.trans h.output, Nat.le_trans h.size k.size, fun i hi hr => (k.block i (Nat.lt_of_lt_of_le hi h.size) (by simp; omega)).trans (h.block i hi hr)⟩

end Go.Proofs.Ytfbfhgejclencaa
