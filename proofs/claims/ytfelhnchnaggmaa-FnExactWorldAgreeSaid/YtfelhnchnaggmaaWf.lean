/- A world that came in, opened. -/
import Derived.Test.YtfelhnchnaggmaaWa
namespace Go.Proofs.Ytfelhnchnaggmaa
open Go.ChangeShapes Go.WideShapes Go.ChangeAt Go.RowKit
set_option linter.unusedVariables false
set_option linter.unusedSimpArgs false

section
variable {H : Type} {enc : TypeId × Value → H} {w : World} {base : Nat} {spare : Nat → Bool} {held : Bool}
set_option maxRecDepth 100000 in
theorem in_reps_cells {fuel : Nat} {cs : List Value} {x : DataW H × List MemPlace} (h : DataW.trod enc Try.prog w base spare held fuel 32 cs = some x) :
    ∃ (A : Option Addr) (c : Nat) (l : List RpP), cs = [.slice A l.length c] ∧ l.length ≤ maxLen ∧ RdRs w A l := by
  obtain ⟨A, c, l, h1, h2, _, h3, h4⟩ := in_rows (f := RpP.cells) (Q := fun v => v.rd w) (k := 7) Try.underlying32 (by kernel_rfl) (by omega) RpP.len (fun n cl y hl h => cells_rep hl h) h
  exact ⟨A, c, l, h1, h2, h3, h4⟩
set_option maxRecDepth 100000 in
theorem cells_world {n : Nat} {cl : List Value} {y : DataW H × List MemPlace} (hl : cl.length = 3) (h : DataW.trod enc Try.prog w base spare held n 35 cl = some y) : ∃ v : WdP, cl = [.int .i64 v.bad, .slice v.RA v.rs.length v.ra, .slice v.SA v.sd.length v.sa] ∧ v.rd w := by
  obtain ⟨c0, c1, c2, rfl⟩ := len3 cl hl
  obtain ⟨n0, y0, h0⟩ := struct_field Try.underlying35 h 0 (tp := 3) (off := 0) (k := 1) rfl rfl (by kernel_rfl)
  obtain ⟨m0, e0, _, _⟩ := DataW.trod_int Try.underlying3 (show DataW.trod enc Try.prog w base spare held n0 3 [c0] = some y0 from h0)
  obtain rfl : c0 = .int .i64 m0 := by simpa using e0
  obtain ⟨n1, y1, h1⟩ := struct_field Try.underlying35 h 1 (tp := 32) (off := 1) (k := 1) rfl rfl (by kernel_rfl)
  obtain ⟨A, a, l, ha, ma, ra⟩ := in_reps_cells h1
  obtain ⟨n2, y2, h2⟩ := struct_field Try.underlying35 h 2 (tp := 33) (off := 2) (k := 1) rfl rfl (by kernel_rfl)
  obtain ⟨B, b, q, hb, mb, rb⟩ := in_msgs_cells h2
  obtain rfl : c1 = .slice A l.length a := by simpa using ha
  obtain rfl : c2 = .slice B q.length b := by simpa using hb
  exact ⟨⟨m0, A, a, l, B, b, q⟩, rfl, ma, mb, ra, rb⟩

set_option maxRecDepth 100000 in
theorem in_world {r : Reach} {b0 : Nat} {v : Value} {d : DataW H} {p : List MemPlace} (hv : Value.okWide Try.prog w r b0 35 v) (h : DataW.Trod enc Try.prog w base spare held 35 v d p) : ∃ m : WdP, v = m.val ∧ m.rd w := by
  obtain ⟨cs, rfl, hsz⟩ := okWide_struct Try.underlying35 hv
  obtain ⟨cl⟩ := cs
  obtain ⟨fuel, hf⟩ := h
  obtain ⟨m, hm, hr⟩ := cells_world (cl := cl) (by have : Try.prog.cellsOf 35 = 3 := by kernel_rfl
                                                   rw [this] at hsz; simpa using hsz) hf
  exact ⟨m, by rw [hm], hr⟩
end
end Go.Proofs.Ytfelhnchnaggmaa
