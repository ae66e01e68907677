/- Votes that came in, made the program's own. -/
import Derived.Test.YtephmhgjhjheaaaUc
namespace Go.Proofs.Ytephmhgjhjheaaa
open Go.ChangeShapes Go.WideShapes Go.ChangeAt Go.RowKit
set_option linter.unusedVariables false

/-- Block g is just these cells, none frozen. -/
def Blk (w : World) (g : Nat) (t : TypeId) (cs : Array Value) : Prop := w.heap[g]? = some (.cells cs t)
section
variable {w w' : World} {g : Nat} {t : TypeId} {cs : Array Value}
theorem Blk.lt (h : Blk w g t cs) : g < w.heap.size := by
  unfold Blk at h
  rcases Nat.lt_or_ge g w.heap.size with h1 | h1
  · exact h1
  · rw [Array.getElem?_eq_none h1] at h
    cases h
theorem Blk.cell (h : Blk w g t cs) (j : Nat) : w.cell? ⟨g, j, none⟩ = cs[j]? := cell_of_row w g j _ t (0, 0) h
theorem Blk.frozen (h : Blk w g t cs) (j : Nat) : w.frozen? ⟨g, j, none⟩ = false := frozen_of_row w g j _ t h
theorem Blk.new (w : World) : Blk (w.alloc (.cells cs t)) w.heap.size t cs := heap_alloc_new w _
theorem Blk.alloc (h : Blk w g t cs) (o : Obj) : Blk (w.alloc o) g t cs := (Below.heap_alloc w o g h.lt).trans h
theorem Blk.below (h : Blk w g t cs) (hb : Below w.heap.size w w') : Blk w' g t cs := (hb.block g h.lt).trans h
theorem Blk.set (h : Blk w g t cs) (j : Nat) (v : Value) : Blk (w.setCell ⟨g, j, none⟩ v) g t (cs.setIfInBounds j v) := heap_setCell_same w g j _ t v h
theorem Blk.far (h : Blk w g t cs) {g' : Nat} (hg : g ≠ g') (j : Nat) (v : Value) : Blk (w.setCell ⟨g', j, none⟩ v) g t cs := (heap_setCell_other w ⟨g', j, none⟩ g v (by simpa using hg)).trans h
end

theorem own_set {w : World} {base : Nat} {e : TypeId} {size : Nat} {v : Value} {n : Nat} {xs : List Value} (h : w.ownsRow base e size v n xs) {b : Nat} (hb : b < base) (o : Nat) (u : Value) : (w.setCell ⟨b, o, none⟩ u).ownsRow base e size v n xs :=
  h.kept (grownBy_set w b o u) (.inr fun e => by have := (h.lt b e).1; omega)

/-- What lies behind a vote is a row of the call's own, in a block from lo on. -/
def VtP.own (w : World) (lo : Nat) (q : VtP) : Prop := w.ownsRow lo 60 7 (.slice q.A q.cl.length q.c) q.cl.length (q.cl.flatMap Cl.cells)
theorem VtP.own.below {w w' : World} {lo : Nat} {q : VtP} (h : q.own w lo) (hb : Below w.heap.size w w') : q.own w' lo := own_below h hb
theorem VtP.own.set {w : World} {lo : Nat} {q : VtP} (h : q.own w lo) {b : Nat} (hb : b < lo) (o : Nat) (u : Value) : q.own (w.setCell ⟨b, o, none⟩ u) lo := own_set h hb o u
theorem VtP.own.base {w : World} {lo lo' : Nat} {q : VtP} (h : q.own w lo) (hb : lo' ≤ lo) : q.own w lo' := own_base h hb
theorem VtP.own.rd {w : World} {lo : Nat} {q : VtP} (h : q.own w lo) : q.rd w := by
  obtain ⟨A, c, hv, hm⟩ := own_form h
  exact ⟨hm, Rd.of_own Cl.len h rfl⟩

/-- The votes Q lie in the row g, and what they claim behind it. -/
def OwV (w : World) (g : Nat) (Q : List VtP) : Prop := w.ownsRow g 58 2 (.slice (some ⟨g, 0, none⟩) Q.length Q.length) Q.length (Q.flatMap VtP.cells) ∧ ∀ q ∈ Q, q.own w (g + 1)
theorem OwV.below {w w' : World} {g : Nat} {Q : List VtP} (h : OwV w g Q) (hb : Below w.heap.size w w') : OwV w' g Q := ⟨own_below h.1 hb, fun q hq => (h.2 q hq).below hb⟩
theorem OwV.rd {w : World} {g : Nat} {Q : List VtP} (h : OwV w g Q) : RdV w (some ⟨g, 0, none⟩) Q := ⟨Rd.of_own VtP.len h.1 rfl, fun q hq => (h.2 q hq).rd⟩
theorem OwV.len {w : World} {g : Nat} {Q : List VtP} (h : OwV w g Q) : Q.length ≤ maxLen := by
  obtain ⟨A, c, hv, hm⟩ := own_form h.1
  exact hm

set_option maxRecDepth 100000 in
set_option maxHeartbeats 1000000 in
theorem toVote (p : VtP) (w : World) (hp : p.rd w) (hl : p.cl.length ≤ 1048576) :
    Calls Try.prog 138 #[p.val] w fun e w' => ∃ q : VtP, e = .returned q.val ∧ q.vt = p.vt ∧ q.own w' w.heap.size ∧ Below w.heap.size w w' := by
  obtain ⟨g, A, c, l⟩ := p
  have z0 : Below w.heap.size w (((w.alloc (.cells #[.int .i64 g, .slice A l.length c] 150)).alloc (.cells #[.int .i64 0, .slice none 0 0] 58)).alloc (.cells #[.int .i64 g, .slice none 0 0] 58)) := (below_alloc2 _ _ _).alloc (by simp; omega) _
  have R := Lib.hid (hp.2.below z0)
  clear hp
  replace hl : l.length ≤ 1048576 := hl
  go_enter Try.func138, Try.ntmps138
  go_wp2_with (fail)
  refine (toClaimS A c l _ hl R.out).mono ?_
  rintro e w1 ⟨g1, rfl, hg1, ho, hb⟩
  obtain ⟨hc, hf⟩ := bcell hb
  have hz : w.heap.size + 1 + 1 < w1.heap.size := by have := hb.size; simp at this; omega
  have B := Lib.hid (below_box3 hb)
  have O := Lib.hid (own_base (base' := w.heap.size + 1 + 1 + 1) ho (by simp))
  have G1 := Lib.hid hg1
  clear ho hg1 z0
  go_wp2
  refine bodyPost_ret (v := .agg #[.int .i64 g, .slice (some ⟨g1, 0, none⟩) l.length l.length]) (by simp [results, Try.results138, go_sem, hc]) rfl ⟨⟨g, some ⟨g1, 0, none⟩, l.length, l⟩, rfl, rfl, ?_, ?_⟩
  · clear hb hc hf
    have o1 := own_set (own_set (own_set O.out (b := w.heap.size + 1 + 1) (by omega) 1 (.slice (some ⟨g1, 0, none⟩) l.length l.length)) (b := w.heap.size + 1) (by omega) 0 (.int .i64 g)) (b := w.heap.size + 1) (by omega) 1 (.slice (some ⟨g1, 0, none⟩) l.length l.length)
    exact own_base o1 (by omega)
  · clear hb hc hf
    iterate 3 (refine Below.setCell ?_ (by first | (simp; done) | (simp; omega)) _)
    exact B.out
end Go.Proofs.Ytephmhgjhjheaaa
