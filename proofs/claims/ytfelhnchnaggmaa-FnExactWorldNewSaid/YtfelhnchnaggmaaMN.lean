/- Da, Df, Dg -/
import Derived.Test.YtfelhnchnaggmaaMM
import Derived.Test.YtfelhnchnaggmaaMK
/- Claims and votes drawn. -/
namespace Go.Proofs.Ytfelhnchnaggmaa
open Go.ChangeShapes Go.WideShapes Go.ChangeAt Go.RowKit
set_option linter.unusedVariables false
set_option linter.unusedSimpArgs false

theorem Blk.grown {w w' : World} {g : Nat} {t : TypeId} {cs : Array Value} {row : Option Nat} (h : Blk w g t cs) (hb : w.grownBy w' row) (hg : some g ≠ row) : Blk w' g t cs := (hb.block g h.lt hg).trans h
theorem grown_row {a b c : World} {R : Nat} {row : Option Nat} (h : a.grownBy b (some R)) (k : b.grownBy c row) (hx : ∀ x, row = some x → a.heap.size ≤ x) : a.grownBy c (some R) :=
  ⟨k.os.trans h.os, k.tape.trans h.tape, k.output.trans h.output, Nat.le_trans h.size k.size, fun i hi hr => (k.block i (Nat.lt_of_lt_of_le hi h.size) (fun e => by have := hx i e.symm; omega)).trans (h.block i hi hr)⟩
section
variable {w w' W : World} {R : Nat} {A : Option Addr} {n c : Nat} {p K : Int}
theorem Reader.row {row : Option Nat} {B : Nat} (h : Reader w R A n c p) (hg : w.grownBy w' row) (hR : R < B) (hB : ∀ b off, A = some ⟨b, off, none⟩ → 0 < n → b < B) (hx : ∀ x, row = some x → B ≤ x) : Reader w' R A n c p :=
  ⟨(hg.block R h.lt (fun e => by have := hx R e.symm; omega)).trans h.at_, fun i hi => by
    obtain ⟨b, off, u, hA, hc, hu⟩ := h.bytes i hi
    exact ⟨b, off, u, hA, hg.cell hc (fun e => by have := hx _ e.symm; have := hB b off hA (by omega); simp at *; omega), hu⟩, h.far, h.lo, h.len⟩
/-- At the end: the reader's place, and that nothing else turned. -/
theorem Drawn.mk {q : Int} (h0 : p ≤ q) (h1 : q ≤ p + K) (hr : Reader w' R A n c q) (hg : w.grownBy w' (some R)) : Drawn w R A n c p K w' := ⟨q, h0, h1, hr, hg⟩
theorem Drawn.set (h : Drawn w R A n c p K W) (hOld : ∀ b off, A = some ⟨b, off, none⟩ → 0 < n → b < w.heap.size) (hR : R < w.heap.size) (x j : Nat) (v : Value) (hx : w.heap.size ≤ x) : Drawn w R A n c p K (W.setCell ⟨x, j, none⟩ v) := by
  obtain ⟨q, h0, h1, hr, hg⟩ := h
  exact ⟨q, h0, h1, hr.set w.heap.size x j v hOld hR hx, grown_new hg (grownBy_set W x j v) hx⟩
end

theorem alloc_heap_size (w : World) (o : Obj) : (w.alloc o).heap.size = w.heap.size + 1 := by simp
theorem infoClaim' : (Try.prog.info? 77).map (fun i => (i.zero, i.size, i.bytes)) = some (some (.agg #[.int .i64 0, .int .i64 0, .int .i64 0, .int .i64 0, .int .i64 0, .int .i64 0, .int .i64 0]), 7, 56) := by kernel_rfl
theorem own_nil_start (w : World) (e : TypeId) (size : Nat) (h : (#[] : Array Value).size = 0 * size) : (w.alloc (.cells #[] e)).ownsRow w.heap.size e size (.slice (some ⟨w.heap.size, 0, none⟩) 0 0) 0 [] :=
  World.ownsRow_lit (size := size) w #[] 0 (Nat.le_refl _) (by unfold maxLen; omega) h

theorem infoVote' : (Try.prog.info? 103).map (fun i => (i.zero, i.size, i.bytes)) = some (some (.agg #[.int .i64 0, .slice none 0 0]), 2, 32) := by kernel_rfl

end Go.Proofs.Ytfelhnchnaggmaa

/- Letters drawn. -/
namespace Go.Proofs.Ytfelhnchnaggmaa
open Go.ChangeShapes Go.WideShapes Go.ChangeAt Go.RowKit
set_option linter.unusedVariables false
set_option linter.unusedSimpArgs false

/-- A letter of the call's own: what lies behind it lies in blocks from lo on. -/
structure MgD (w : World) (lo : Nat) (m : MgP) : Prop where
  nc : m.cl.length ≤ 4
  nv : m.vt.length ≤ 4
  n3 : ∀ v ∈ m.vt, v.cl.length ≤ 3
  oc : w.ownsRow lo 77 7 (.slice m.A m.cl.length m.a) m.cl.length (m.cl.flatMap Cl.cells)
  ov : w.ownsRow lo 103 2 (.slice m.B m.vt.length m.b) m.vt.length (m.vt.flatMap VtP.cells)
  oo : ∀ v ∈ m.vt, v.own w lo
section
variable {w w' : World} {lo : Nat} {m : MgP}
theorem MgD.rd (h : MgD w lo m) : m.rd w := ⟨by have := h.nc; unfold maxLen; omega, by have := h.nv; unfold maxLen; omega, Rd.of_own Cl.len h.oc rfl, Rd.of_own VtP.len h.ov rfl, fun v hv => (h.oo v hv).rd⟩
theorem MgD.set (h : MgD w lo m) {b : Nat} (hb : b < lo) (o : Nat) (u : Value) : MgD (w.setCell ⟨b, o, none⟩ u) lo m := ⟨h.nc, h.nv, h.n3, own_set h.oc hb o u, own_set h.ov hb o u, fun v hv => (h.oo v hv).set hb o u⟩
theorem MgD.base (h : MgD w lo m) {lo' : Nat} (hb : lo' ≤ lo) : MgD w lo' m := ⟨h.nc, h.nv, h.n3, own_base h.oc hb, own_base h.ov hb, fun v hv => (h.oo v hv).base hb⟩
theorem own_far {base : Nat} {e : TypeId} {size : Nat} {v : Value} {n : Nat} {xs : List Value} {row : Option Nat} (h : w.ownsRow base e size v n xs) (hg : w.grownBy w' row) (hr : ∀ k, row = some k → k < base) : w'.ownsRow base e size v n xs := by
  refine h.kept hg ?_
  rcases hq : v.ownBlock with _ | x
  · exact .inl rfl
  · exact .inr fun e => by have h1 := hr x e.symm; have h2 := (own_block_ge h x hq).1; omega
theorem MgD.far (h : MgD w lo m) {row : Option Nat} (hg : w.grownBy w' row) (hr : ∀ k, row = some k → k < lo) : MgD w' lo m := ⟨h.nc, h.nv, h.n3, own_far h.oc hg hr, own_far h.ov hg hr, fun v hv => own_far (h.oo v hv) hg hr⟩
theorem MgD.below (h : MgD w lo m) (hb : Below w.heap.size w w') : MgD w' lo m := h.far (Below.grownBy hb none) (by simp)
theorem own_ne {base : Nat} {e t : TypeId} {size : Nat} {v : Value} {n : Nat} {xs : List Value} {b : Nat} {cs : Array Value} (h : w.ownsRow base e size v n xs) (hk : Blk w b t cs) (hne : e ≠ t) : v.ownBlock ≠ some b := by
  intro hb
  rcases h.2 with ⟨rfl, _⟩ | ⟨g, cap, cur, rfl, _, h3, _⟩
  · cases hb
  · cases hb
    unfold Blk at hk
    rw [h3] at hk
    cases hk
    exact hne rfl
theorem MgD.setB (h : MgD w lo m) {b : Nat} {cs : Array Value} (hk : Blk w b 72 cs) (o : Nat) (u : Value) : MgD (w.setCell ⟨b, o, none⟩ u) lo m :=
  ⟨h.nc, h.nv, h.n3, h.oc.kept (grownBy_set w b o u) (.inr (own_ne h.oc hk (by decide))), h.ov.kept (grownBy_set w b o u) (.inr (own_ne h.ov hk (by decide))), fun v hv => World.ownsRow.kept (h.oo v hv) (grownBy_set w b o u) (.inr (own_ne (h.oo v hv) hk (by decide)))⟩
/-- The letter's claims do not lie where a vote's claims lie. -/
def Sep (m : MgP) : Prop := ∀ v ∈ m.vt, ∀ k, (Value.slice m.A m.cl.length m.a).ownBlock = some k → (Value.slice v.A v.cl.length v.c).ownBlock ≠ some k
theorem Sep.nil {m : MgP} (h : m.vt = []) : Sep m := fun v hv => by rw [h] at hv; cases hv
theorem Sep.none {m : MgP} (h : m.A = none) : Sep m := fun v hv k hk => by rw [h] at hk; cases hk
theorem MgD.bare (w : World) (lo : Nat) (k f v s : Int) (r : Rq) : MgD w lo ⟨k, f, v, s, r, none, 0, [], none, 0, []⟩ := ⟨by simp, by simp, by simp, World.ownsRow_nil _ _ _ _, World.ownsRow_nil _ _ _ _, by simp⟩
end

end Go.Proofs.Ytfelhnchnaggmaa

/- Any letter drawn. -/
namespace Go.Proofs.Ytfelhnchnaggmaa
open Go.ChangeShapes Go.WideShapes Go.ChangeAt Go.RowKit
set_option linter.unusedVariables false
set_option linter.unusedSimpArgs false

theorem step_append_own {P : Program} {ops : Array Oper} {o : Oper} {a : Act} {w : World} {K : Act → World → Prop} {Q : Exit → Act → World → Prop} {E : Prop} (hgd : o.guard = none) (s x : Operand) (t : TypeId)
    (ho : o.op = .call { callee := .builtin .append, args := #[s, x], argTypes := #[t, t] })
    (base : Nat) (e : TypeId) (i : TypeInfo) (z : Value) (size bytes : Nat) (ht : P.underlying t = some (.slice e)) (hi : P.info? e = some i) (hz : i.zero = some z)
    (hsize : i.size = size) (hby : i.bytes = bytes) (hzs : z.cells.size = size) (hsz : 0 < size)
    (v : Value) (n : Nat) (xs : List Value) (hs : a.eval s = v) (hown : w.ownsRow base e size v n xs)
    (ad : Addr) (m c : Nat) (news : List Value) (hx : a.eval x = .slice (some ad) m c) (hl : news.length = m * size) (hnews : ∀ j u, news[j]? = some u → w.cell? (ad.add j) = some u) (h1 : ∀ u ∈ news, u.oneCell' = true)
    (h63 : n + m ≤ maxLen) (hbytes : (n + m) * bytes ≤ 140737488355328) (hbase : base ≤ w.heap.size)
    (h : ∀ v' w', w'.ownsRow base e size v' (n + m) (xs ++ news) → w.grownBy w' v.ownBlock → (v' = .slice none 0 0 ↔ v = .slice none 0 0 ∧ m = 0) → K (a.put o.dst v') w') :
    if Region.wanted o (yielded ops a.tmps) = true then Oper.wp P o a w K Q else E := by
  have hw : Region.wanted o (yielded ops a.tmps) = true := by simp [Region.wanted, hgd]
  rw [if_pos hw]
  exact wp_append_own w s x t ho base e i z size bytes ht hi hz hsize hby hzs hsz v n xs hs hown ad m c news hx hl hnews h1 h63 hbytes hbase h
theorem lit_cells (w : World) (t : TypeId) (l : List Int) : ∀ i (hi : i < l.length), (w.alloc (.cells (l.map (Value.int .i64)).toArray t)).cell? ⟨w.heap.size, i, none⟩ = some (.int .i64 (l[i]'hi)) := by
  intro i hi
  rw [cell_of_row _ _ i _ t (0, 0) (heap_alloc_new w _)]
  simp [hi]
theorem row_cells (w : World) (t : TypeId) (cs : Array Value) (news : List Value) (h : cs.toList = news) : ∀ j u, news[j]? = some u → (w.alloc (.cells cs t)).cell? (Addr.add ⟨w.heap.size, 0, none⟩ j) = some u := by
  intro j u hu
  have hb := (Blk.new (t := t) (cs := cs) w).cell j
  rw [show Addr.add ⟨w.heap.size, 0, none⟩ j = ⟨w.heap.size, j, none⟩ by simp [Addr.add]; intro h; exact h.symm, hb]
  rw [← h] at hu
  simpa using hu
theorem claim_one (y : Cl) : ∀ u ∈ y.cells, u.oneCell' = true := by
  intro u hu
  simp [Cl.cells] at hu
  rcases hu with rfl | rfl | rfl | rfl | rfl | rfl | rfl <;> rfl

end Go.Proofs.Ytfelhnchnaggmaa
