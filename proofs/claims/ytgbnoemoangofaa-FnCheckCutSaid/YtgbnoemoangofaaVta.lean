/- A draw on its way. -/
import Derived.Test.YtgbnoemoangofaaMM
namespace Go.Proofs.Ytgbnoemoangofaa
open Go.ChangeShapes Go.WideShapes Go.ChangeAt Go.RowKit
set_option linter.unusedVariables false
set_option linter.unusedSimpArgs false

theorem grown_rowV {a b c : World} {R : Nat} {row : Option Nat} (h : a.grownBy b (some R)) (k : b.grownBy c row) (hx : ∀ x, row = some x → a.heap.size ≤ x) : a.grownBy c (some R) :=
  ⟨k.os.trans h.os, k.tape.trans h.tape, k.output.trans h.output, Nat.le_trans h.size k.size, fun i hi hr => (k.block i (Nat.lt_of_lt_of_le hi h.size) (fun e => by have := hx i e.symm; omega)).trans (h.block i hi hr)⟩
theorem Reader.rowV {w w' : World} {R : Nat} {A : Option Addr} {n c : Nat} {p : Int} {row : Option Nat} {B : Nat} (h : Reader w R A n c p) (hg : w.grownBy w' row) (hR : R < B) (hB : ∀ b off, A = some ⟨b, off, none⟩ → 0 < n → b < B) (hx : ∀ x, row = some x → B ≤ x) : Reader w' R A n c p :=
  ⟨(hg.block R h.lt (fun e => by have := hx R e.symm; omega)).trans h.at_, fun i hi => by
    obtain ⟨b, off, u, hA, hc, hu⟩ := h.bytes i hi
    exact ⟨b, off, u, hA, hg.cell hc (fun e => by have := hx _ e.symm; have := hB b off hA (by omega); simp at *; omega), hu⟩, h.far, h.lo, h.len⟩
/-- A draw on its way: from w to W, the reader at q. -/
structure Dr (w : World) (R : Nat) (A : Option Addr) (n c : Nat) (q : Int) (W : World) : Prop where
  rd : Reader W R A n c q
  gr : w.grownBy W (some R)
section
variable {w W W1 : World} {R : Nat} {A : Option Addr} {n c : Nat} {p q q1 : Int}
theorem Dr.start (h : Reader w R A n c q) : Dr w R A n c q w := ⟨h, World.grownBy.refl _ _⟩
theorem Dr.below (h : Dr w R A n c q W) (hb : Below W.heap.size W W1) : Dr w R A n c q W1 := ⟨h.rd.below hb, grownBy_trans h.gr (Below.grownBy hb _)⟩
theorem Dr.draw (h : Dr w R A n c q W) (hr : Reader W1 R A n c q1) (hg : W.grownBy W1 (some R)) : Dr w R A n c q1 W1 := ⟨hr, grownBy_trans h.gr hg⟩
theorem Dr.put (h : Dr w R A n c q W) (hO : ∀ b off, A = some ⟨b, off, none⟩ → 0 < n → b < w.heap.size) (hR : R < w.heap.size) {x : Nat} (hx : w.heap.size ≤ x) (j : Nat) (v : Value) : Dr w R A n c q (W.setCell ⟨x, j, none⟩ v) := ⟨h.rd.set w.heap.size x j v hO hR hx, grown_new h.gr (grownBy_set W x j v) hx⟩
theorem Dr.row {row : Option Nat} (h : Dr w R A n c q W) (hO : ∀ b off, A = some ⟨b, off, none⟩ → 0 < n → b < w.heap.size) (hR : R < w.heap.size) (hg : W.grownBy W1 row) (hx : ∀ x, row = some x → w.heap.size ≤ x) : Dr w R A n c q W1 := ⟨h.rd.rowV hg hR hO hx, grown_rowV h.gr hg hx⟩
theorem Dr.lo {lo : Nat} (h : Dr w R A n c q W) (hO : ∀ b off, A = some ⟨b, off, none⟩ → 0 < n → b < w.heap.size) (hR : R < w.heap.size) (hb : Below lo W W1) (hl : w.heap.size ≤ lo) : Dr w R A n c q W1 := by
  refine ⟨⟨(hb.block R (by omega)).trans h.rd.at_, fun i hi => ?_, h.rd.far, h.rd.lo, h.rd.len⟩, ⟨hb.os.trans h.gr.os, hb.tape.trans h.gr.tape, hb.output.trans h.gr.output, Nat.le_trans h.gr.size hb.size, fun i hi hr => (hb.block i (by omega)).trans (h.gr.block i hi hr)⟩⟩
  obtain ⟨b, off, u, hA, hc, hu⟩ := h.rd.bytes i hi
  have hb1 := hO b off hA (by omega)
  exact ⟨b, off, u, hA, (hb.cell (p := ⟨b, off + i, none⟩) (by simp; omega)).trans hc, hu⟩
theorem Dr.out {K : Int} (h : Dr w R A n c q W) (h0 : p ≤ q) (h1 : q ≤ p + K) : Drawn w R A n c p K W := ⟨q, h0, h1, h.rd, h.gr⟩
end
theorem lit_cellsV (w : World) (t : TypeId) (l : List Int) : ∀ i (hi : i < l.length), (w.alloc (.cells (l.map (Value.int .i64)).toArray t)).cell? ⟨w.heap.size, i, none⟩ = some (.int .i64 (l[i]'hi)) := by
  intro i hi
  rw [cell_of_row _ _ i _ t (0, 0) (heap_alloc_new w _)]
  simp [hi]

theorem oneV {w : World} {R : Nat} {A : Option Addr} {n c : Nat} {p : Int} (g : Nat) (l : List Int) (h : Reader w R A n c p) (hp : p ≤ 100000) (hl : 0 < l.length) (hl1 : l.length ≤ 1000) (hg : g ≠ R)
    (hc : ∀ i (hi : i < l.length), w.cell? ⟨g, i, none⟩ = some (.int .i64 (l[i]'hi))) :
    Calls Try.prog 37 #[.pointer (some ⟨R, 0, none⟩), .slice (some ⟨g, 0, none⟩) l.length l.length] w fun e w' => ∃ v : Int, v ∈ l ∧ e = .returned (.int .i64 v) ∧ Drawn w R A n c p 1 w' := by
  have H := Lib.hid h
  have HC := Lib.hid hc
  clear h hc
  go_enter Try.func37, Try.ntmps37
  go_wp2_with (fail)
  refine (pickR (l.length : Int) H.out hp (by omega) (by omega)).mono ?_
  rintro e w1 ⟨v, v0, v1, rfl, hd⟩
  obtain ⟨j, rfl⟩ := Int.eq_ofNat_of_zero_le v0
  obtain ⟨q, hq0, hq1, hr, hgr⟩ := hd
  have hcell := hgr.cell (HC.out j (by omega)) (by simpa using hg)
  have HD : Hid (Drawn w R A n c p 1 w1) := ⟨q, hq0, hq1, hr, hgr⟩
  have HM := Lib.hid (List.getElem_mem (l := l) (n := j) (by omega))
  clear hr hgr
  generalize l[j] = x at hcell HM
  go_wp2
  go_light
  go_ret
  exact ⟨x, HM.out, rfl, HD.out⟩

end Go.Proofs.Ytgbnoemoangofaa
