/- Draws: a reader kept; a request drawn. -/
import Derived.Test.YtmnephaechgffaaDoorTp
namespace Go.Proofs.YtmnephaechgffaaDoor
open Go.ChangeShapes Go.WideShapes Go.ChangeAt Go.RowKit
set_option linter.unusedVariables false

/-- A reader of a code of n bytes, at place p. -/
structure Reader (w : World) (R : Nat) (A : Option Addr) (n c : Nat) (p : Int) : Prop where
  at_ : RdrAt w R A n c p
  bytes : InB w A n
  far : 0 < n → ∀ b off, A = some ⟨b, off, none⟩ → b ≠ R
  lo : 0 ≤ p
  len : n ≤ 2000

section
variable {w w' : World} {R : Nat} {A : Option Addr} {n c : Nat} {p : Int}

theorem Reader.lt (h : Reader w R A n c p) : R < w.heap.size := by
  have := h.at_
  unfold RdrAt at this
  rcases Nat.lt_or_ge R w.heap.size with h1 | h1
  · exact h1
  · rw [Array.getElem?_eq_none h1] at this
    cases this

theorem Reader.grown {row : Option Nat} (h : Reader w R A n c p) (hg : w.grownBy w' row) (hR : row ≠ some R) (hb : ∀ b off, A = some ⟨b, off, none⟩ → row ≠ some b) : Reader w' R A n c p :=
  ⟨(hg.block R h.lt (Ne.symm hR)).trans h.at_, fun i hi => by
    obtain ⟨b, off, u, hA, hc, hu⟩ := h.bytes i hi
    exact ⟨b, off, u, hA, hg.cell hc (Ne.symm (hb b off hA)), hu⟩, h.far, h.lo, h.len⟩

theorem Reader.below (h : Reader w R A n c p) (hb : Below w.heap.size w w') : Reader w' R A n c p := h.grown (Below.grownBy hb none) (by simp) (by simp)

theorem Reader.next (h : Reader w R A n c p) (m : Nat) : Reader ((w.setCell ⟨R, 1, none⟩ (.int .i64 (p + 1))).drewN m) R A n c (p + 1) :=
  ⟨heap_setCell_same w R 1 _ 79 _ h.at_, fun i hi => by
    obtain ⟨b, off, u, hA, hc, hu⟩ := h.bytes i hi
    exact ⟨b, off, u, hA, (grownBy_set w R 1 (.int .i64 (p + 1))).cell hc (by simpa using h.far (by omega) b off hA), hu⟩, h.far, by have := h.lo; omega, h.len⟩

theorem grownBy_drewN {row : Option Nat} (h : w.grownBy w' row) (m : Nat) : w.grownBy (w'.drewN m) row := ⟨h.os, h.tape, h.output, h.size, h.block⟩
end

/-- What a draw leaves: at most K places on, and nothing turned but the reader. -/
def Drawn (w : World) (R : Nat) (A : Option Addr) (n c : Nat) (p K : Int) (w' : World) : Prop := ∃ q, p ≤ q ∧ q ≤ p + K ∧ Reader w' R A n c q ∧ w.grownBy w' (some R)

theorem pickR {w : World} {R : Nat} {A : Option Addr} {n c : Nat} {p : Int} (N : Int) (h : Reader w R A n c p) (hp : p ≤ 100000) (hN : 1 ≤ N) (hN1 : N ≤ 1000) :
    Calls Tryd.prog 47 #[.pointer (some ⟨R, 0, none⟩), .int .i64 N] w fun e w' => ∃ v : Int, 0 ≤ v ∧ v < N ∧ e = .returned (.int .i64 v) ∧ Drawn w R A n c p 1 w' :=
  ((if h0 : n = 0 then by
      subst h0
      exact pick_none w R A c p N h.lo hp hN hN1 h.at_
    else pick w R A n c p N h.len h.lo hp hN hN1 h.at_ h.bytes (h.far (by omega)) : Calls Tryd.prog 47 #[.pointer (some ⟨R, 0, none⟩), .int .i64 N] w fun e w' => Picked w R p N e w')).mono fun e w' ⟨v, m, h0, h1, he, hw⟩ => ⟨v, h0, h1, he, by
    subst hw
    exact ⟨p + 1, by omega, by omega, h.next m, grownBy_drewN (grownBy_set w R 1 _) m⟩⟩

/-- One of a list that lies in a block of the call's own. -/
theorem oneR {w : World} {R : Nat} {A : Option Addr} {n c : Nat} {p : Int} (g : Nat) (l : List Int) (h : Reader w R A n c p) (hp : p ≤ 100000) (hl : 0 < l.length) (hl1 : l.length ≤ 1000) (hg : g ≠ R)
    (hc : ∀ i (hi : i < l.length), w.cell? ⟨g, i, none⟩ = some (.int .i64 (l[i]'hi))) :
    Calls Tryd.prog 46 #[.pointer (some ⟨R, 0, none⟩), .slice (some ⟨g, 0, none⟩) l.length l.length] w fun e w' => ∃ v : Int, e = .returned (.int .i64 v) ∧ Drawn w R A n c p 1 w' := by
  have H := Lib.hid h
  have HC := Lib.hid hc
  clear h hc
  go_enter Tryd.func46, Tryd.ntmps46
  go_wp2_with (fail)
  refine (pickR (l.length : Int) H.out hp (by omega) (by omega)).mono ?_
  rintro e w1 ⟨v, v0, v1, rfl, hd⟩
  obtain ⟨j, rfl⟩ := Int.eq_ofNat_of_zero_le v0
  obtain ⟨q, hq0, hq1, hr, hgr⟩ := hd
  have hcell := hgr.cell (HC.out j (by omega)) (by simpa using hg)
  have HD : Hid (Drawn w R A n c p 1 w1) := ⟨q, hq0, hq1, hr, hgr⟩
  clear hr hgr
  generalize l[j] = x at hcell
  go_wp2
  go_light
  go_ret
  exact ⟨x, rfl, HD.out⟩
end Go.Proofs.YtmnephaechgffaaDoor
