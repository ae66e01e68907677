/- A keeper that came in, opened. -/
import Derived.Test.YtfelhnchnaggmaaMG
import Derived.Test.YtfelhnchnaggmaaRa
namespace Go.Proofs.Ytfelhnchnaggmaa
open Go.ChangeShapes Go.WideShapes Go.ChangeAt Go.RowKit
set_option linter.unusedVariables false
set_option linter.unusedSimpArgs false

section
variable {H : Type} {enc : TypeId × Value → H} {w : World} {base : Nat} {spare : Nat → Bool} {held : Bool}
set_option maxRecDepth 100000 in
theorem in_msgs_cells {fuel : Nat} {cs : List Value} {x : DataW H × List MemPlace} (h : DataW.trod enc Try.prog w base spare held fuel 33 cs = some x) :
    ∃ (A : Option Addr) (c : Nat) (l : List MgP), cs = [.slice A l.length c] ∧ l.length ≤ maxLen ∧ RdMs w A l := by
  obtain ⟨A, c, l, h1, h2, _, h3, h4⟩ := in_rows (f := MgP.cells) (Q := fun v => v.rd w) (k := 11) Try.underlying33 (by kernel_rfl) (by omega) MgP.len (fun n cl y hl h => cells_msg hl h) h
  exact ⟨A, c, l, h1, h2, h3, h4⟩
def RpP.cells (r : RpP) : List Value := [.int .i64 r.me, .int .i64 r.v, .bool r.lv, .int .i64 r.nx, .slice r.TA r.tk.length r.ta, .slice r.HA r.hd.length r.ha, .slice r.DA r.dn.length r.da]
theorem RpP.len (r : RpP) : r.cells.length = 7 := rfl

set_option maxRecDepth 100000 in
theorem cells_rep {n : Nat} {cl : List Value} {y : DataW H × List MemPlace} (hl : cl.length = 7) (h : DataW.trod enc Try.prog w base spare held n 89 cl = some y) : ∃ v : RpP, cl = v.cells ∧ v.rd w := by
  obtain ⟨c0, c1, c2, c3, c4, c5, c6, rfl⟩ := len7 cl hl
  obtain ⟨n0, y0, h0⟩ := struct_field Try.underlying89 h 0 (tp := 3) (off := 0) (k := 1) rfl rfl (by kernel_rfl)
  obtain ⟨m0, e0, _, _⟩ := DataW.trod_int Try.underlying3 (show DataW.trod enc Try.prog w base spare held n0 3 [c0] = some y0 from h0)
  obtain rfl : c0 = .int .i64 m0 := by simpa using e0
  obtain ⟨n1, y1, h1⟩ := struct_field Try.underlying89 h 1 (tp := 3) (off := 1) (k := 1) rfl rfl (by kernel_rfl)
  obtain ⟨m1, e1, _, _⟩ := DataW.trod_int Try.underlying3 (show DataW.trod enc Try.prog w base spare held n1 3 [c1] = some y1 from h1)
  obtain rfl : c1 = .int .i64 m1 := by simpa using e1
  obtain ⟨n3, y3, h3⟩ := struct_field Try.underlying89 h 3 (tp := 3) (off := 3) (k := 1) rfl rfl (by kernel_rfl)
  obtain ⟨m3, e3, _, _⟩ := DataW.trod_int Try.underlying3 (show DataW.trod enc Try.prog w base spare held n3 3 [c3] = some y3 from h3)
  obtain rfl : c3 = .int .i64 m3 := by simpa using e3
  obtain ⟨n2, y2, h2⟩ := struct_field Try.underlying89 h 2 (tp := 4) (off := 2) (k := 1) rfl rfl (by kernel_rfl)
  obtain ⟨m2, e2, _⟩ := DataW.trod_bool Try.underlying4 (show DataW.trod enc Try.prog w base spare held n2 4 [c2] = some y2 from h2)
  obtain rfl : c2 = .bool m2 := by simpa using e2
  obtain ⟨n4, y4, h4⟩ := struct_field Try.underlying89 h 4 (tp := 87) (off := 4) (k := 1) rfl rfl (by kernel_rfl)
  obtain ⟨A, a, l, ha, ma, ra⟩ := in_claims h4
  obtain ⟨n5, y5, h5⟩ := struct_field Try.underlying89 h 5 (tp := 33) (off := 5) (k := 1) rfl rfl (by kernel_rfl)
  obtain ⟨B, b, v, hb, mb, rb⟩ := in_msgs_cells h5
  obtain ⟨n6, y6, h6⟩ := struct_field Try.underlying89 h 6 (tp := 87) (off := 6) (k := 1) rfl rfl (by kernel_rfl)
  obtain ⟨C, c, d, hc, mc, rc⟩ := in_claims h6
  obtain rfl : c4 = .slice A l.length a := by simpa using ha
  obtain rfl : c5 = .slice B v.length b := by simpa using hb
  obtain rfl : c6 = .slice C d.length c := by simpa using hc
  exact ⟨⟨m0, m1, m2, m3, A, a, l, B, b, v, C, c, d⟩, rfl, ma, mb, mc, ra, rb, rc⟩

set_option maxRecDepth 100000 in
theorem in_rep {r : Reach} {b0 : Nat} {v : Value} {d : DataW H} {p : List MemPlace} (hv : Value.okWide Try.prog w r b0 89 v) (h : DataW.Trod enc Try.prog w base spare held 89 v d p) : ∃ m : RpP, v = m.val ∧ m.rd w := by
  obtain ⟨cs, rfl, hsz⟩ := okWide_struct Try.underlying89 hv
  obtain ⟨cl⟩ := cs
  obtain ⟨fuel, hf⟩ := h
  obtain ⟨m, hm, hr⟩ := cells_rep (cl := cl) (by have : Try.prog.cellsOf 89 = 7 := by kernel_rfl
                                                 rw [this] at hsz; simpa using hsz) hf
  exact ⟨m, by rw [hm]; rfl, hr⟩
end
end Go.Proofs.Ytfelhnchnaggmaa
