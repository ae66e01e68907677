/- What came in, opened: votes, and one claim. -/
import Derived.Test.YtlokhgnbcbnmpaaMG
namespace Go.Proofs.Ytlokhgnbcbnmpaa
open Go.ChangeShapes Go.WideShapes Go.ChangeAt Go.RowKit Go.Joins
set_option linter.unusedVariables false
section
variable {H : Type} {enc : TypeId × Value → H} {w : World} {base : Nat} {spare : Nat → Bool} {held : Bool}

set_option maxRecDepth 100000 in
theorem votes_in {r : Reach} {b0 : Nat} {v : Value} {d : DataW H} {p : List MemPlace} (hv : Value.okWide Try.prog w r b0 25 v) (h : DataW.Trod enc Try.prog w base spare held 25 v d p) :
    ∃ (A : Option Addr) (c : Nat) (l : List VtP), v = .slice A l.length c ∧ l.length ≤ maxLen ∧ RdV w A l := by
  obtain ⟨a0, len, cap, rfl⟩ := okWide_slice Try.underlying25 hv
  obtain ⟨fuel, hf⟩ := h
  obtain ⟨A, c, l, h1, h2, h3⟩ := in_votes hf
  exact ⟨A, c, l, by simpa [Value.cells] using h1, h2, h3⟩

set_option maxRecDepth 100000 in
theorem claim_in {r : Reach} {b0 : Nat} {v : Value} {d : DataW H} {p : List MemPlace} (hv : Value.okWide Try.prog w r b0 49 v) (h : DataW.Trod enc Try.prog w base spare held 49 v d p) : ∃ c : Cl, v = c.val := by
  obtain ⟨cs, rfl, hsz⟩ := okWide_struct Try.underlying49 hv
  obtain ⟨cl⟩ := cs
  obtain ⟨fuel, hf⟩ := h
  obtain ⟨m, hm⟩ := cells_claim (cl := cl) (by have : Try.prog.cellsOf 49 = 7 := by kernel_rfl
                                               rw [this] at hsz; simpa using hsz) hf
  exact ⟨m, by rw [hm]; rfl⟩
end
end Go.Proofs.Ytlokhgnbcbnmpaa
