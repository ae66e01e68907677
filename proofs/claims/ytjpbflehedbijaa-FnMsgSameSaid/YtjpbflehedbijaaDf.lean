/- Letters drawn. -/
import Derived.Test.YtjpbflehedbijaaDa
namespace Go.Proofs.Ytjpbflehedbijaa
open Go.ChangeShapes Go.WideShapes Go.ChangeAt Go.RowKit
set_option linter.unusedVariables false
set_option linter.unusedSimpArgs false

/-- A letter of the call's own: what lies behind it lies in blocks from lo on. -/
structure MgD (w : World) (lo : Nat) (m : MgP) : Prop where
  nc : m.cl.length ≤ 4
  nv : m.vt.length ≤ 4
  n3 : ∀ v ∈ m.vt, v.cl.length ≤ 3
  oc : w.ownsRow lo 60 7 (.slice m.A m.cl.length m.a) m.cl.length (m.cl.flatMap Cl.cells)
  ov : w.ownsRow lo 66 2 (.slice m.B m.vt.length m.b) m.vt.length (m.vt.flatMap VtP.cells)
  oo : ∀ v ∈ m.vt, v.own w lo
section
variable {w w' : World} {lo : Nat} {m : MgP}
theorem MgD.rd (h : MgD w lo m) : m.rd w := ⟨by have := h.nc; unfold maxLen; omega, by have := h.nv; unfold maxLen; omega, Rd.of_own Cl.len h.oc rfl, Rd.of_own VtP.len h.ov rfl, fun v hv => (h.oo v hv).rd⟩
theorem MgD.set (h : MgD w lo m) {b : Nat} (hb : b < lo) (o : Nat) (u : Value) : MgD (w.setCell ⟨b, o, none⟩ u) lo m := ⟨h.nc, h.nv, h.n3, own_set h.oc hb o u, own_set h.ov hb o u, fun v hv => (h.oo v hv).set hb o u⟩
theorem MgD.base (h : MgD w lo m) {lo' : Nat} (hb : lo' ≤ lo) : MgD w lo' m := ⟨h.nc, h.nv, h.n3, own_base h.oc hb, own_base h.ov hb, fun v hv => (h.oo v hv).base hb⟩
theorem own_far {base : Nat} {e : TypeId} {size : Nat} {v : Value} {n : Nat} {xs : List Value} {row : Option Nat} (h : w.ownsRow base e size v n xs) (hg : w.grownBy w' row) (hr : ∀ k, row = some k → k < base) : w'.ownsRow base e size v n xs := by
  refine h.kept hg ?_
  rcases hq : v.ownBlock with _ | x
  · exact .inl rfl
  · exact .inr fun e => by have h1 := hr x e.symm; have h2 := (own_block_ge h x hq).1; omega
theorem MgD.far (h : MgD w lo m) {row : Option Nat} (hg : w.grownBy w' row) (hr : ∀ k, row = some k → k < lo) : MgD w' lo m := ⟨h.nc, h.nv, h.n3, own_far h.oc hg hr, own_far h.ov hg hr, fun v hv => own_far (h.oo v hv) hg hr⟩
theorem MgD.below (h : MgD w lo m) (hb : Below w.heap.size w w') : MgD w' lo m := h.far (Below.grownBy hb none) (by simp)
theorem own_ne {base : Nat} {e t : TypeId} {size : Nat} {v : Value} {n : Nat} {xs : List Value} {b : Nat} {cs : Array Value} (h : w.ownsRow base e size v n xs) (hk : Blk w b t cs) (hne : e ≠ t) : v.ownBlock ≠ some b := by
  intro hb
  rcases h.2 with ⟨rfl, _⟩ | ⟨g, cap, cur, rfl, _, h3, _⟩
  · cases hb
  · cases hb
    unfold Blk at hk
    rw [h3] at hk
    cases hk
    exact hne rfl
theorem MgD.setB (h : MgD w lo m) {b : Nat} {cs : Array Value} (hk : Blk w b 28 cs) (o : Nat) (u : Value) : MgD (w.setCell ⟨b, o, none⟩ u) lo m :=
  ⟨h.nc, h.nv, h.n3, h.oc.kept (grownBy_set w b o u) (.inr (own_ne h.oc hk (by decide))), h.ov.kept (grownBy_set w b o u) (.inr (own_ne h.ov hk (by decide))), fun v hv => World.ownsRow.kept (h.oo v hv) (grownBy_set w b o u) (.inr (own_ne (h.oo v hv) hk (by decide)))⟩
/-- The letter's claims do not lie where a vote's claims lie. -/
def Sep (m : MgP) : Prop := ∀ v ∈ m.vt, ∀ k, (Value.slice m.A m.cl.length m.a).ownBlock = some k → (Value.slice v.A v.cl.length v.c).ownBlock ≠ some k
theorem Sep.nil {m : MgP} (h : m.vt = []) : Sep m := fun v hv => by rw [h] at hv; cases hv
theorem Sep.none {m : MgP} (h : m.A = none) : Sep m := fun v hv k hk => by rw [h] at hk; cases hk
theorem MgD.bare (w : World) (lo : Nat) (k f v s : Int) (r : Rq) : MgD w lo ⟨k, f, v, s, r, none, 0, [], none, 0, []⟩ := ⟨by simp, by simp, by simp, World.ownsRow_nil _ _ _ _, World.ownsRow_nil _ _ _ _, by simp⟩
end

set_option maxRecDepth 100000 in
set_option maxHeartbeats 8000000 in
theorem l20Msg {w : World} {R : Nat} {A : Option Addr} {n c : Nat} {p : Int} (h : Reader w R A n c p) (hp : p ≤ 70000) :
    Calls Try.prog 66 #[.pointer (some ⟨R, 0, none⟩)] w fun e w' => ∃ m : MgP, e = .returned m.val ∧ m.cl.length ≤ 3 ∧ Sep m ∧ MgD w' w.heap.size m ∧ Drawn w R A n c p 120 w' := by
  have hOld := Lib.hid h.old
  have hRlt := h.lt
  have RD := Lib.hid (h.below ((Below.refl w.heap.size w).alloc (Nat.le_refl _) (.cells #[.int .i64 0, .int .i64 0, .int .i64 0, .int .i64 0, .int .i64 0, .int .i64 0, .int .i64 0, .int .i64 0, .int .i64 0, .slice none 0 0, .slice none 0 0] 28)))
  have GR := Lib.hid (World.grownBy_alloc w (.cells #[.int .i64 0, .int .i64 0, .int .i64 0, .int .i64 0, .int .i64 0, .int .i64 0, .int .i64 0, .int .i64 0, .int .i64 0, .slice none 0 0, .slice none 0 0] 28) (some R))
  have K0 : Hid (Blk (w.alloc (.cells #[.int .i64 0, .int .i64 0, .int .i64 0, .int .i64 0, .int .i64 0, .int .i64 0, .int .i64 0, .int .i64 0, .int .i64 0, .slice none 0 0, .slice none 0 0] 28)) w.heap.size 28 #[.int .i64 0, .int .i64 0, .int .i64 0, .int .i64 0, .int .i64 0, .int .i64 0, .int .i64 0, .int .i64 0, .int .i64 0, .slice none 0 0, .slice none 0 0]) := Blk.new w
  have hlo := h.lo
  clear h
  go_enter Try.func66, Try.ntmps66
  go_wp2_with (fail)
  refine (pickR 6 RD.out (by omega) (by omega) (by omega)).mono ?_
  rintro e Wa ⟨d, d0, d1, rfl, qWa, qWa0, qWa1, hr, hgr⟩
  have RD := Lib.hid hr
  have GR := Lib.hid (grownBy_trans GR.out hgr)
  have K0 := Lib.hid (K0.out.grown hgr (by simp; omega))
  clear hr hgr
  go_wp2_with (fail)
  refine (pickR 4 RD.out (by omega) (by omega) (by omega)).mono ?_
  rintro e Wb ⟨f, f0, f1, rfl, qWb, qWb0, qWb1, hr, hgr⟩
  have RD := Lib.hid hr
  have GR := Lib.hid (grownBy_trans GR.out hgr)
  have K0 := Lib.hid (K0.out.grown hgr (by simp; omega))
  clear hr hgr
  go_wp2_with (fail)
  refine (pickR 3 RD.out (by omega) (by omega) (by omega)).mono ?_
  rintro e Wc ⟨v, v0, v1, rfl, qWc, qWc0, qWc1, hr, hgr⟩
  have RD := Lib.hid hr
  have GR := Lib.hid (grownBy_trans GR.out hgr)
  have K0 := Lib.hid (K0.out.grown hgr (by simp; omega))
  clear hr hgr
  have lc := K0.out.lt
  have hd : d = 0 ∨ d = 1 ∨ d = 2 ∨ d = 3 ∨ d = 4 ∨ d = 5 := by omega
  rcases hd with rfl | rfl | rfl | rfl | rfl | rfl
  ·
    have RD := Lib.hid (RD.out.below ((Below.refl Wc.heap.size Wc).alloc (Nat.le_refl _) (.cells #[.int .i64 1, .int .i64 f, .int .i64 v, .int .i64 0, .int .i64 0, .int .i64 0, .int .i64 0, .int .i64 0, .int .i64 0, .slice none 0 0, .slice none 0 0] 28)))
    have GR := Lib.hid (grownBy_trans GR.out (World.grownBy_alloc Wc (.cells #[.int .i64 1, .int .i64 f, .int .i64 v, .int .i64 0, .int .i64 0, .int .i64 0, .int .i64 0, .int .i64 0, .int .i64 0, .slice none 0 0, .slice none 0 0] 28) (some R)))
    have K0 := Lib.hid (K0.out.alloc (.cells #[.int .i64 1, .int .i64 f, .int .i64 v, .int .i64 0, .int .i64 0, .int .i64 0, .int .i64 0, .int .i64 0, .int .i64 0, .slice none 0 0, .slice none 0 0] 28))
    have K1 : Hid (Blk (Wc.alloc (.cells #[.int .i64 1, .int .i64 f, .int .i64 v, .int .i64 0, .int .i64 0, .int .i64 0, .int .i64 0, .int .i64 0, .int .i64 0, .slice none 0 0, .slice none 0 0] 28)) Wc.heap.size 28 #[.int .i64 1, .int .i64 f, .int .i64 v, .int .i64 0, .int .i64 0, .int .i64 0, .int .i64 0, .int .i64 0, .int .i64 0, .slice none 0 0, .slice none 0 0]) := Blk.new Wc
    have l1 : Wc.heap.size < (Wc.alloc (.cells #[.int .i64 1, .int .i64 f, .int .i64 v, .int .i64 0, .int .i64 0, .int .i64 0, .int .i64 0, .int .i64 0, .int .i64 0, .slice none 0 0, .slice none 0 0] 28)).heap.size := by simp
    have x0 : (Wc.alloc (.cells #[.int .i64 1, .int .i64 f, .int .i64 v, .int .i64 0, .int .i64 0, .int .i64 0, .int .i64 0, .int .i64 0, .int .i64 0, .slice none 0 0, .slice none 0 0] 28)).cell? ⟨Wc.heap.size, 0, none⟩ = some (.int .i64 1) := K1.out.cell 0
    have x1 : (Wc.alloc (.cells #[.int .i64 1, .int .i64 f, .int .i64 v, .int .i64 0, .int .i64 0, .int .i64 0, .int .i64 0, .int .i64 0, .int .i64 0, .slice none 0 0, .slice none 0 0] 28)).cell? ⟨Wc.heap.size, 1, none⟩ = some (.int .i64 f) := K1.out.cell 1
    have x2 : (Wc.alloc (.cells #[.int .i64 1, .int .i64 f, .int .i64 v, .int .i64 0, .int .i64 0, .int .i64 0, .int .i64 0, .int .i64 0, .int .i64 0, .slice none 0 0, .slice none 0 0] 28)).cell? ⟨Wc.heap.size, 2, none⟩ = some (.int .i64 v) := K1.out.cell 2
    have x3 : (Wc.alloc (.cells #[.int .i64 1, .int .i64 f, .int .i64 v, .int .i64 0, .int .i64 0, .int .i64 0, .int .i64 0, .int .i64 0, .int .i64 0, .slice none 0 0, .slice none 0 0] 28)).cell? ⟨Wc.heap.size, 3, none⟩ = some (.int .i64 0) := K1.out.cell 3
    have x4 : (Wc.alloc (.cells #[.int .i64 1, .int .i64 f, .int .i64 v, .int .i64 0, .int .i64 0, .int .i64 0, .int .i64 0, .int .i64 0, .int .i64 0, .slice none 0 0, .slice none 0 0] 28)).cell? ⟨Wc.heap.size, 4, none⟩ = some (.int .i64 0) := K1.out.cell 4
    have x5 : (Wc.alloc (.cells #[.int .i64 1, .int .i64 f, .int .i64 v, .int .i64 0, .int .i64 0, .int .i64 0, .int .i64 0, .int .i64 0, .int .i64 0, .slice none 0 0, .slice none 0 0] 28)).cell? ⟨Wc.heap.size, 5, none⟩ = some (.int .i64 0) := K1.out.cell 5
    have x6 : (Wc.alloc (.cells #[.int .i64 1, .int .i64 f, .int .i64 v, .int .i64 0, .int .i64 0, .int .i64 0, .int .i64 0, .int .i64 0, .int .i64 0, .slice none 0 0, .slice none 0 0] 28)).cell? ⟨Wc.heap.size, 6, none⟩ = some (.int .i64 0) := K1.out.cell 6
    have x7 : (Wc.alloc (.cells #[.int .i64 1, .int .i64 f, .int .i64 v, .int .i64 0, .int .i64 0, .int .i64 0, .int .i64 0, .int .i64 0, .int .i64 0, .slice none 0 0, .slice none 0 0] 28)).cell? ⟨Wc.heap.size, 7, none⟩ = some (.int .i64 0) := K1.out.cell 7
    have x8 : (Wc.alloc (.cells #[.int .i64 1, .int .i64 f, .int .i64 v, .int .i64 0, .int .i64 0, .int .i64 0, .int .i64 0, .int .i64 0, .int .i64 0, .slice none 0 0, .slice none 0 0] 28)).cell? ⟨Wc.heap.size, 8, none⟩ = some (.int .i64 0) := K1.out.cell 8
    have x9 : (Wc.alloc (.cells #[.int .i64 1, .int .i64 f, .int .i64 v, .int .i64 0, .int .i64 0, .int .i64 0, .int .i64 0, .int .i64 0, .int .i64 0, .slice none 0 0, .slice none 0 0] 28)).cell? ⟨Wc.heap.size, 9, none⟩ = some (.slice none 0 0) := K1.out.cell 9
    have x10 : (Wc.alloc (.cells #[.int .i64 1, .int .i64 f, .int .i64 v, .int .i64 0, .int .i64 0, .int .i64 0, .int .i64 0, .int .i64 0, .int .i64 0, .slice none 0 0, .slice none 0 0] 28)).cell? ⟨Wc.heap.size, 10, none⟩ = some (.slice none 0 0) := K1.out.cell 10
    have xf := K1.out.frozen
    have ld := K1.out.lt
    go_wp2_with (fail)
    refine (l20Req RD.out (by omega)).mono ?_
    rintro e Wd ⟨rc, rn, ro, rx, ry, rfl, qWd, qWd0, qWd1, hr, hgr⟩
    have RD := Lib.hid hr
    have GR := Lib.hid (grownBy_trans GR.out hgr)
    have K0 := Lib.hid (K0.out.grown hgr (by simp; omega))
    have K1 := Lib.hid (K1.out.grown hgr (by simp; omega))
    clear hr hgr
    clear x0 x1 x2 x3 x4 x5 x6 x7 x8 x9 x10 xf
    have z0 : Wd.cell? ⟨w.heap.size, 0, none⟩ = some (.int .i64 0) := K0.out.cell 0
    have z1 : Wd.cell? ⟨w.heap.size, 1, none⟩ = some (.int .i64 0) := K0.out.cell 1
    have z2 : Wd.cell? ⟨w.heap.size, 2, none⟩ = some (.int .i64 0) := K0.out.cell 2
    have z3 : Wd.cell? ⟨w.heap.size, 3, none⟩ = some (.int .i64 0) := K0.out.cell 3
    have z4 : Wd.cell? ⟨w.heap.size, 4, none⟩ = some (.int .i64 0) := K0.out.cell 4
    have z5 : Wd.cell? ⟨w.heap.size, 5, none⟩ = some (.int .i64 0) := K0.out.cell 5
    have z6 : Wd.cell? ⟨w.heap.size, 6, none⟩ = some (.int .i64 0) := K0.out.cell 6
    have z7 : Wd.cell? ⟨w.heap.size, 7, none⟩ = some (.int .i64 0) := K0.out.cell 7
    have z8 : Wd.cell? ⟨w.heap.size, 8, none⟩ = some (.int .i64 0) := K0.out.cell 8
    have z9 : Wd.cell? ⟨w.heap.size, 9, none⟩ = some (.slice none 0 0) := K0.out.cell 9
    have z10 : Wd.cell? ⟨w.heap.size, 10, none⟩ = some (.slice none 0 0) := K0.out.cell 10
    have zf := K0.out.frozen
    go_wp2
    go_light
    refine bodyPost_ret (v := .agg #[.int .i64 1, .int .i64 0, .int .i64 0, .int .i64 0, .int .i64 rc, .int .i64 rn, .int .i64 ro, .int .i64 rx, .int .i64 ry, .slice none 0 0, .slice none 0 0]) (by simp [results, Try.results66, go_sem, z0, z1, z2, z3, z4, z5, z6, z7, z8, z9, z10]) rfl ⟨⟨1, 0, 0, 0, ⟨rc, rn, ro, rx, ry⟩, none, 0, [], none, 0, []⟩, rfl, by first | (simp; done) | (simp; omega), Sep.nil rfl, ?_, ?_⟩
    · exact MgD.bare _ _ _ _ _ _ _
    · iterate 11 (refine Drawn.set ?_ hOld.out hRlt _ _ _ (Nat.le_refl _))
      exact Drawn.mk (by omega) (by omega) RD.out GR.out
  ·
    have RD := Lib.hid (RD.out.below ((Below.refl Wc.heap.size Wc).alloc (Nat.le_refl _) (.cells #[.int .i64 2, .int .i64 f, .int .i64 v, .int .i64 0, .int .i64 0, .int .i64 0, .int .i64 0, .int .i64 0, .int .i64 0, .slice none 0 0, .slice none 0 0] 28)))
    have GR := Lib.hid (grownBy_trans GR.out (World.grownBy_alloc Wc (.cells #[.int .i64 2, .int .i64 f, .int .i64 v, .int .i64 0, .int .i64 0, .int .i64 0, .int .i64 0, .int .i64 0, .int .i64 0, .slice none 0 0, .slice none 0 0] 28) (some R)))
    have K0 := Lib.hid (K0.out.alloc (.cells #[.int .i64 2, .int .i64 f, .int .i64 v, .int .i64 0, .int .i64 0, .int .i64 0, .int .i64 0, .int .i64 0, .int .i64 0, .slice none 0 0, .slice none 0 0] 28))
    have K1 : Hid (Blk (Wc.alloc (.cells #[.int .i64 2, .int .i64 f, .int .i64 v, .int .i64 0, .int .i64 0, .int .i64 0, .int .i64 0, .int .i64 0, .int .i64 0, .slice none 0 0, .slice none 0 0] 28)) Wc.heap.size 28 #[.int .i64 2, .int .i64 f, .int .i64 v, .int .i64 0, .int .i64 0, .int .i64 0, .int .i64 0, .int .i64 0, .int .i64 0, .slice none 0 0, .slice none 0 0]) := Blk.new Wc
    have l1 : Wc.heap.size < (Wc.alloc (.cells #[.int .i64 2, .int .i64 f, .int .i64 v, .int .i64 0, .int .i64 0, .int .i64 0, .int .i64 0, .int .i64 0, .int .i64 0, .slice none 0 0, .slice none 0 0] 28)).heap.size := by simp
    have x0 : (Wc.alloc (.cells #[.int .i64 2, .int .i64 f, .int .i64 v, .int .i64 0, .int .i64 0, .int .i64 0, .int .i64 0, .int .i64 0, .int .i64 0, .slice none 0 0, .slice none 0 0] 28)).cell? ⟨Wc.heap.size, 0, none⟩ = some (.int .i64 2) := K1.out.cell 0
    have x1 : (Wc.alloc (.cells #[.int .i64 2, .int .i64 f, .int .i64 v, .int .i64 0, .int .i64 0, .int .i64 0, .int .i64 0, .int .i64 0, .int .i64 0, .slice none 0 0, .slice none 0 0] 28)).cell? ⟨Wc.heap.size, 1, none⟩ = some (.int .i64 f) := K1.out.cell 1
    have x2 : (Wc.alloc (.cells #[.int .i64 2, .int .i64 f, .int .i64 v, .int .i64 0, .int .i64 0, .int .i64 0, .int .i64 0, .int .i64 0, .int .i64 0, .slice none 0 0, .slice none 0 0] 28)).cell? ⟨Wc.heap.size, 2, none⟩ = some (.int .i64 v) := K1.out.cell 2
    have x3 : (Wc.alloc (.cells #[.int .i64 2, .int .i64 f, .int .i64 v, .int .i64 0, .int .i64 0, .int .i64 0, .int .i64 0, .int .i64 0, .int .i64 0, .slice none 0 0, .slice none 0 0] 28)).cell? ⟨Wc.heap.size, 3, none⟩ = some (.int .i64 0) := K1.out.cell 3
    have x4 : (Wc.alloc (.cells #[.int .i64 2, .int .i64 f, .int .i64 v, .int .i64 0, .int .i64 0, .int .i64 0, .int .i64 0, .int .i64 0, .int .i64 0, .slice none 0 0, .slice none 0 0] 28)).cell? ⟨Wc.heap.size, 4, none⟩ = some (.int .i64 0) := K1.out.cell 4
    have x5 : (Wc.alloc (.cells #[.int .i64 2, .int .i64 f, .int .i64 v, .int .i64 0, .int .i64 0, .int .i64 0, .int .i64 0, .int .i64 0, .int .i64 0, .slice none 0 0, .slice none 0 0] 28)).cell? ⟨Wc.heap.size, 5, none⟩ = some (.int .i64 0) := K1.out.cell 5
    have x6 : (Wc.alloc (.cells #[.int .i64 2, .int .i64 f, .int .i64 v, .int .i64 0, .int .i64 0, .int .i64 0, .int .i64 0, .int .i64 0, .int .i64 0, .slice none 0 0, .slice none 0 0] 28)).cell? ⟨Wc.heap.size, 6, none⟩ = some (.int .i64 0) := K1.out.cell 6
    have x7 : (Wc.alloc (.cells #[.int .i64 2, .int .i64 f, .int .i64 v, .int .i64 0, .int .i64 0, .int .i64 0, .int .i64 0, .int .i64 0, .int .i64 0, .slice none 0 0, .slice none 0 0] 28)).cell? ⟨Wc.heap.size, 7, none⟩ = some (.int .i64 0) := K1.out.cell 7
    have x8 : (Wc.alloc (.cells #[.int .i64 2, .int .i64 f, .int .i64 v, .int .i64 0, .int .i64 0, .int .i64 0, .int .i64 0, .int .i64 0, .int .i64 0, .slice none 0 0, .slice none 0 0] 28)).cell? ⟨Wc.heap.size, 8, none⟩ = some (.int .i64 0) := K1.out.cell 8
    have x9 : (Wc.alloc (.cells #[.int .i64 2, .int .i64 f, .int .i64 v, .int .i64 0, .int .i64 0, .int .i64 0, .int .i64 0, .int .i64 0, .int .i64 0, .slice none 0 0, .slice none 0 0] 28)).cell? ⟨Wc.heap.size, 9, none⟩ = some (.slice none 0 0) := K1.out.cell 9
    have x10 : (Wc.alloc (.cells #[.int .i64 2, .int .i64 f, .int .i64 v, .int .i64 0, .int .i64 0, .int .i64 0, .int .i64 0, .int .i64 0, .int .i64 0, .slice none 0 0, .slice none 0 0] 28)).cell? ⟨Wc.heap.size, 10, none⟩ = some (.slice none 0 0) := K1.out.cell 10
    have xf := K1.out.frozen
    have ld := K1.out.lt
    go_wp2_with (fail)
    refine (pickR 3 RD.out (by omega) (by omega) (by omega)).mono ?_
    rintro e Wd ⟨sq, sq0, sq1, rfl, qWd, qWd0, qWd1, hr, hgr⟩
    have RD := Lib.hid hr
    have GR := Lib.hid (grownBy_trans GR.out hgr)
    have K0 := Lib.hid (K0.out.grown hgr (by simp; omega))
    have K1 := Lib.hid (K1.out.grown hgr (by simp; omega))
    clear hr hgr
    clear x0 x1 x2 x3 x4 x5 x6 x7 x8 x9 x10 xf
    clear l1 ld
    have x0 : Wd.cell? ⟨Wc.heap.size, 0, none⟩ = some (.int .i64 2) := K1.out.cell 0
    have x1 : Wd.cell? ⟨Wc.heap.size, 1, none⟩ = some (.int .i64 f) := K1.out.cell 1
    have x2 : Wd.cell? ⟨Wc.heap.size, 2, none⟩ = some (.int .i64 v) := K1.out.cell 2
    have x3 : Wd.cell? ⟨Wc.heap.size, 3, none⟩ = some (.int .i64 0) := K1.out.cell 3
    have x4 : Wd.cell? ⟨Wc.heap.size, 4, none⟩ = some (.int .i64 0) := K1.out.cell 4
    have x5 : Wd.cell? ⟨Wc.heap.size, 5, none⟩ = some (.int .i64 0) := K1.out.cell 5
    have x6 : Wd.cell? ⟨Wc.heap.size, 6, none⟩ = some (.int .i64 0) := K1.out.cell 6
    have x7 : Wd.cell? ⟨Wc.heap.size, 7, none⟩ = some (.int .i64 0) := K1.out.cell 7
    have x8 : Wd.cell? ⟨Wc.heap.size, 8, none⟩ = some (.int .i64 0) := K1.out.cell 8
    have x9 : Wd.cell? ⟨Wc.heap.size, 9, none⟩ = some (.slice none 0 0) := K1.out.cell 9
    have x10 : Wd.cell? ⟨Wc.heap.size, 10, none⟩ = some (.slice none 0 0) := K1.out.cell 10
    have xf := K1.out.frozen
    have ld := K1.out.lt
    go_wp2_with (fail)
    have RD := Lib.hid (RD.out.set w.heap.size Wc.heap.size 3 (.int .i64 (1 + sq)) hOld.out hRlt (by omega))
    have GR := Lib.hid (grown_new GR.out (grownBy_set Wd Wc.heap.size 3 (.int .i64 (1 + sq))) (by omega))
    have K0 := Lib.hid (K0.out.far (show w.heap.size ≠ Wc.heap.size by omega) 3 (.int .i64 (1 + sq)))
    have K1 : Hid (Blk (Wd.setCell ⟨Wc.heap.size, 3, none⟩ (.int .i64 (1 + sq))) Wc.heap.size 28 #[.int .i64 2, .int .i64 f, .int .i64 v, .int .i64 (1 + sq), .int .i64 0, .int .i64 0, .int .i64 0, .int .i64 0, .int .i64 0, .slice none 0 0, .slice none 0 0]) := by have := K1.out.set 3 (.int .i64 (1 + sq)); simpa [Hid] using this
    clear x0 x1 x2 x3 x4 x5 x6 x7 x8 x9 x10 xf
    clear ld
    refine (l20Req RD.out (by omega)).mono ?_
    rintro e We ⟨rc, rn, ro, rx, ry, rfl, qWe, qWe0, qWe1, hr, hgr⟩
    have RD := Lib.hid hr
    have GR := Lib.hid (grownBy_trans GR.out hgr)
    have K0 := Lib.hid (K0.out.grown hgr (by simp; omega))
    have K1 := Lib.hid (K1.out.grown hgr (by simp; omega))
    clear hr hgr
    have x0 : We.cell? ⟨Wc.heap.size, 0, none⟩ = some (.int .i64 2) := K1.out.cell 0
    have x1 : We.cell? ⟨Wc.heap.size, 1, none⟩ = some (.int .i64 f) := K1.out.cell 1
    have x2 : We.cell? ⟨Wc.heap.size, 2, none⟩ = some (.int .i64 v) := K1.out.cell 2
    have x3 : We.cell? ⟨Wc.heap.size, 3, none⟩ = some (.int .i64 (1 + sq)) := K1.out.cell 3
    have x4 : We.cell? ⟨Wc.heap.size, 4, none⟩ = some (.int .i64 0) := K1.out.cell 4
    have x5 : We.cell? ⟨Wc.heap.size, 5, none⟩ = some (.int .i64 0) := K1.out.cell 5
    have x6 : We.cell? ⟨Wc.heap.size, 6, none⟩ = some (.int .i64 0) := K1.out.cell 6
    have x7 : We.cell? ⟨Wc.heap.size, 7, none⟩ = some (.int .i64 0) := K1.out.cell 7
    have x8 : We.cell? ⟨Wc.heap.size, 8, none⟩ = some (.int .i64 0) := K1.out.cell 8
    have x9 : We.cell? ⟨Wc.heap.size, 9, none⟩ = some (.slice none 0 0) := K1.out.cell 9
    have x10 : We.cell? ⟨Wc.heap.size, 10, none⟩ = some (.slice none 0 0) := K1.out.cell 10
    have xf := K1.out.frozen
    have ld := K1.out.lt
    have z0 : We.cell? ⟨w.heap.size, 0, none⟩ = some (.int .i64 0) := K0.out.cell 0
    have z1 : We.cell? ⟨w.heap.size, 1, none⟩ = some (.int .i64 0) := K0.out.cell 1
    have z2 : We.cell? ⟨w.heap.size, 2, none⟩ = some (.int .i64 0) := K0.out.cell 2
    have z3 : We.cell? ⟨w.heap.size, 3, none⟩ = some (.int .i64 0) := K0.out.cell 3
    have z4 : We.cell? ⟨w.heap.size, 4, none⟩ = some (.int .i64 0) := K0.out.cell 4
    have z5 : We.cell? ⟨w.heap.size, 5, none⟩ = some (.int .i64 0) := K0.out.cell 5
    have z6 : We.cell? ⟨w.heap.size, 6, none⟩ = some (.int .i64 0) := K0.out.cell 6
    have z7 : We.cell? ⟨w.heap.size, 7, none⟩ = some (.int .i64 0) := K0.out.cell 7
    have z8 : We.cell? ⟨w.heap.size, 8, none⟩ = some (.int .i64 0) := K0.out.cell 8
    have z9 : We.cell? ⟨w.heap.size, 9, none⟩ = some (.slice none 0 0) := K0.out.cell 9
    have z10 : We.cell? ⟨w.heap.size, 10, none⟩ = some (.slice none 0 0) := K0.out.cell 10
    have zf := K0.out.frozen
    go_wp2
    go_light
    refine bodyPost_ret (v := .agg #[.int .i64 2, .int .i64 f, .int .i64 v, .int .i64 (1 + sq), .int .i64 rc, .int .i64 rn, .int .i64 ro, .int .i64 rx, .int .i64 ry, .slice none 0 0, .slice none 0 0]) (by simp [results, Try.results66, go_sem, z0, z1, z2, z3, z4, z5, z6, z7, z8, z9, z10]) rfl ⟨⟨2, f, v, 1 + sq, ⟨rc, rn, ro, rx, ry⟩, none, 0, [], none, 0, []⟩, rfl, by first | (simp; done) | (simp; omega), Sep.nil rfl, ?_, ?_⟩
    · exact MgD.bare _ _ _ _ _ _ _
    · iterate 11 (refine Drawn.set ?_ hOld.out hRlt _ _ _ (Nat.le_refl _))
      iterate 5 (refine Drawn.set ?_ hOld.out hRlt _ _ _ (by omega))
      exact Drawn.mk (by omega) (by omega) RD.out GR.out
  ·
    have RD := Lib.hid (RD.out.below ((Below.refl Wc.heap.size Wc).alloc (Nat.le_refl _) (.cells #[.int .i64 3, .int .i64 f, .int .i64 v, .int .i64 0, .int .i64 0, .int .i64 0, .int .i64 0, .int .i64 0, .int .i64 0, .slice none 0 0, .slice none 0 0] 28)))
    have GR := Lib.hid (grownBy_trans GR.out (World.grownBy_alloc Wc (.cells #[.int .i64 3, .int .i64 f, .int .i64 v, .int .i64 0, .int .i64 0, .int .i64 0, .int .i64 0, .int .i64 0, .int .i64 0, .slice none 0 0, .slice none 0 0] 28) (some R)))
    have K0 := Lib.hid (K0.out.alloc (.cells #[.int .i64 3, .int .i64 f, .int .i64 v, .int .i64 0, .int .i64 0, .int .i64 0, .int .i64 0, .int .i64 0, .int .i64 0, .slice none 0 0, .slice none 0 0] 28))
    have K1 : Hid (Blk (Wc.alloc (.cells #[.int .i64 3, .int .i64 f, .int .i64 v, .int .i64 0, .int .i64 0, .int .i64 0, .int .i64 0, .int .i64 0, .int .i64 0, .slice none 0 0, .slice none 0 0] 28)) Wc.heap.size 28 #[.int .i64 3, .int .i64 f, .int .i64 v, .int .i64 0, .int .i64 0, .int .i64 0, .int .i64 0, .int .i64 0, .int .i64 0, .slice none 0 0, .slice none 0 0]) := Blk.new Wc
    have l1 : Wc.heap.size < (Wc.alloc (.cells #[.int .i64 3, .int .i64 f, .int .i64 v, .int .i64 0, .int .i64 0, .int .i64 0, .int .i64 0, .int .i64 0, .int .i64 0, .slice none 0 0, .slice none 0 0] 28)).heap.size := by simp
    have x0 : (Wc.alloc (.cells #[.int .i64 3, .int .i64 f, .int .i64 v, .int .i64 0, .int .i64 0, .int .i64 0, .int .i64 0, .int .i64 0, .int .i64 0, .slice none 0 0, .slice none 0 0] 28)).cell? ⟨Wc.heap.size, 0, none⟩ = some (.int .i64 3) := K1.out.cell 0
    have x1 : (Wc.alloc (.cells #[.int .i64 3, .int .i64 f, .int .i64 v, .int .i64 0, .int .i64 0, .int .i64 0, .int .i64 0, .int .i64 0, .int .i64 0, .slice none 0 0, .slice none 0 0] 28)).cell? ⟨Wc.heap.size, 1, none⟩ = some (.int .i64 f) := K1.out.cell 1
    have x2 : (Wc.alloc (.cells #[.int .i64 3, .int .i64 f, .int .i64 v, .int .i64 0, .int .i64 0, .int .i64 0, .int .i64 0, .int .i64 0, .int .i64 0, .slice none 0 0, .slice none 0 0] 28)).cell? ⟨Wc.heap.size, 2, none⟩ = some (.int .i64 v) := K1.out.cell 2
    have x3 : (Wc.alloc (.cells #[.int .i64 3, .int .i64 f, .int .i64 v, .int .i64 0, .int .i64 0, .int .i64 0, .int .i64 0, .int .i64 0, .int .i64 0, .slice none 0 0, .slice none 0 0] 28)).cell? ⟨Wc.heap.size, 3, none⟩ = some (.int .i64 0) := K1.out.cell 3
    have x4 : (Wc.alloc (.cells #[.int .i64 3, .int .i64 f, .int .i64 v, .int .i64 0, .int .i64 0, .int .i64 0, .int .i64 0, .int .i64 0, .int .i64 0, .slice none 0 0, .slice none 0 0] 28)).cell? ⟨Wc.heap.size, 4, none⟩ = some (.int .i64 0) := K1.out.cell 4
    have x5 : (Wc.alloc (.cells #[.int .i64 3, .int .i64 f, .int .i64 v, .int .i64 0, .int .i64 0, .int .i64 0, .int .i64 0, .int .i64 0, .int .i64 0, .slice none 0 0, .slice none 0 0] 28)).cell? ⟨Wc.heap.size, 5, none⟩ = some (.int .i64 0) := K1.out.cell 5
    have x6 : (Wc.alloc (.cells #[.int .i64 3, .int .i64 f, .int .i64 v, .int .i64 0, .int .i64 0, .int .i64 0, .int .i64 0, .int .i64 0, .int .i64 0, .slice none 0 0, .slice none 0 0] 28)).cell? ⟨Wc.heap.size, 6, none⟩ = some (.int .i64 0) := K1.out.cell 6
    have x7 : (Wc.alloc (.cells #[.int .i64 3, .int .i64 f, .int .i64 v, .int .i64 0, .int .i64 0, .int .i64 0, .int .i64 0, .int .i64 0, .int .i64 0, .slice none 0 0, .slice none 0 0] 28)).cell? ⟨Wc.heap.size, 7, none⟩ = some (.int .i64 0) := K1.out.cell 7
    have x8 : (Wc.alloc (.cells #[.int .i64 3, .int .i64 f, .int .i64 v, .int .i64 0, .int .i64 0, .int .i64 0, .int .i64 0, .int .i64 0, .int .i64 0, .slice none 0 0, .slice none 0 0] 28)).cell? ⟨Wc.heap.size, 8, none⟩ = some (.int .i64 0) := K1.out.cell 8
    have x9 : (Wc.alloc (.cells #[.int .i64 3, .int .i64 f, .int .i64 v, .int .i64 0, .int .i64 0, .int .i64 0, .int .i64 0, .int .i64 0, .int .i64 0, .slice none 0 0, .slice none 0 0] 28)).cell? ⟨Wc.heap.size, 9, none⟩ = some (.slice none 0 0) := K1.out.cell 9
    have x10 : (Wc.alloc (.cells #[.int .i64 3, .int .i64 f, .int .i64 v, .int .i64 0, .int .i64 0, .int .i64 0, .int .i64 0, .int .i64 0, .int .i64 0, .slice none 0 0, .slice none 0 0] 28)).cell? ⟨Wc.heap.size, 10, none⟩ = some (.slice none 0 0) := K1.out.cell 10
    have xf := K1.out.frozen
    have ld := K1.out.lt
    go_wp2_with (fail)
    refine (pickR 3 RD.out (by omega) (by omega) (by omega)).mono ?_
    rintro e Wd ⟨sq, sq0, sq1, rfl, qWd, qWd0, qWd1, hr, hgr⟩
    have RD := Lib.hid hr
    have GR := Lib.hid (grownBy_trans GR.out hgr)
    have K0 := Lib.hid (K0.out.grown hgr (by simp; omega))
    have K1 := Lib.hid (K1.out.grown hgr (by simp; omega))
    clear hr hgr
    clear x0 x1 x2 x3 x4 x5 x6 x7 x8 x9 x10 xf
    clear l1 ld
    have x0 : Wd.cell? ⟨Wc.heap.size, 0, none⟩ = some (.int .i64 3) := K1.out.cell 0
    have x1 : Wd.cell? ⟨Wc.heap.size, 1, none⟩ = some (.int .i64 f) := K1.out.cell 1
    have x2 : Wd.cell? ⟨Wc.heap.size, 2, none⟩ = some (.int .i64 v) := K1.out.cell 2
    have x3 : Wd.cell? ⟨Wc.heap.size, 3, none⟩ = some (.int .i64 0) := K1.out.cell 3
    have x4 : Wd.cell? ⟨Wc.heap.size, 4, none⟩ = some (.int .i64 0) := K1.out.cell 4
    have x5 : Wd.cell? ⟨Wc.heap.size, 5, none⟩ = some (.int .i64 0) := K1.out.cell 5
    have x6 : Wd.cell? ⟨Wc.heap.size, 6, none⟩ = some (.int .i64 0) := K1.out.cell 6
    have x7 : Wd.cell? ⟨Wc.heap.size, 7, none⟩ = some (.int .i64 0) := K1.out.cell 7
    have x8 : Wd.cell? ⟨Wc.heap.size, 8, none⟩ = some (.int .i64 0) := K1.out.cell 8
    have x9 : Wd.cell? ⟨Wc.heap.size, 9, none⟩ = some (.slice none 0 0) := K1.out.cell 9
    have x10 : Wd.cell? ⟨Wc.heap.size, 10, none⟩ = some (.slice none 0 0) := K1.out.cell 10
    have xf := K1.out.frozen
    have ld := K1.out.lt
    go_wp2_with (fail)
    have RD := Lib.hid (RD.out.set w.heap.size Wc.heap.size 3 (.int .i64 (1 + sq)) hOld.out hRlt (by omega))
    have GR := Lib.hid (grown_new GR.out (grownBy_set Wd Wc.heap.size 3 (.int .i64 (1 + sq))) (by omega))
    have K0 := Lib.hid (K0.out.far (show w.heap.size ≠ Wc.heap.size by omega) 3 (.int .i64 (1 + sq)))
    have K1 : Hid (Blk (Wd.setCell ⟨Wc.heap.size, 3, none⟩ (.int .i64 (1 + sq))) Wc.heap.size 28 #[.int .i64 3, .int .i64 f, .int .i64 v, .int .i64 (1 + sq), .int .i64 0, .int .i64 0, .int .i64 0, .int .i64 0, .int .i64 0, .slice none 0 0, .slice none 0 0]) := by have := K1.out.set 3 (.int .i64 (1 + sq)); simpa [Hid] using this
    clear x0 x1 x2 x3 x4 x5 x6 x7 x8 x9 x10 xf
    clear ld
    refine (l20Req RD.out (by omega)).mono ?_
    rintro e We ⟨rc, rn, ro, rx, ry, rfl, qWe, qWe0, qWe1, hr, hgr⟩
    have RD := Lib.hid hr
    have GR := Lib.hid (grownBy_trans GR.out hgr)
    have K0 := Lib.hid (K0.out.grown hgr (by simp; omega))
    have K1 := Lib.hid (K1.out.grown hgr (by simp; omega))
    clear hr hgr
    have x0 : We.cell? ⟨Wc.heap.size, 0, none⟩ = some (.int .i64 3) := K1.out.cell 0
    have x1 : We.cell? ⟨Wc.heap.size, 1, none⟩ = some (.int .i64 f) := K1.out.cell 1
    have x2 : We.cell? ⟨Wc.heap.size, 2, none⟩ = some (.int .i64 v) := K1.out.cell 2
    have x3 : We.cell? ⟨Wc.heap.size, 3, none⟩ = some (.int .i64 (1 + sq)) := K1.out.cell 3
    have x4 : We.cell? ⟨Wc.heap.size, 4, none⟩ = some (.int .i64 0) := K1.out.cell 4
    have x5 : We.cell? ⟨Wc.heap.size, 5, none⟩ = some (.int .i64 0) := K1.out.cell 5
    have x6 : We.cell? ⟨Wc.heap.size, 6, none⟩ = some (.int .i64 0) := K1.out.cell 6
    have x7 : We.cell? ⟨Wc.heap.size, 7, none⟩ = some (.int .i64 0) := K1.out.cell 7
    have x8 : We.cell? ⟨Wc.heap.size, 8, none⟩ = some (.int .i64 0) := K1.out.cell 8
    have x9 : We.cell? ⟨Wc.heap.size, 9, none⟩ = some (.slice none 0 0) := K1.out.cell 9
    have x10 : We.cell? ⟨Wc.heap.size, 10, none⟩ = some (.slice none 0 0) := K1.out.cell 10
    have xf := K1.out.frozen
    have ld := K1.out.lt
    have z0 : We.cell? ⟨w.heap.size, 0, none⟩ = some (.int .i64 0) := K0.out.cell 0
    have z1 : We.cell? ⟨w.heap.size, 1, none⟩ = some (.int .i64 0) := K0.out.cell 1
    have z2 : We.cell? ⟨w.heap.size, 2, none⟩ = some (.int .i64 0) := K0.out.cell 2
    have z3 : We.cell? ⟨w.heap.size, 3, none⟩ = some (.int .i64 0) := K0.out.cell 3
    have z4 : We.cell? ⟨w.heap.size, 4, none⟩ = some (.int .i64 0) := K0.out.cell 4
    have z5 : We.cell? ⟨w.heap.size, 5, none⟩ = some (.int .i64 0) := K0.out.cell 5
    have z6 : We.cell? ⟨w.heap.size, 6, none⟩ = some (.int .i64 0) := K0.out.cell 6
    have z7 : We.cell? ⟨w.heap.size, 7, none⟩ = some (.int .i64 0) := K0.out.cell 7
    have z8 : We.cell? ⟨w.heap.size, 8, none⟩ = some (.int .i64 0) := K0.out.cell 8
    have z9 : We.cell? ⟨w.heap.size, 9, none⟩ = some (.slice none 0 0) := K0.out.cell 9
    have z10 : We.cell? ⟨w.heap.size, 10, none⟩ = some (.slice none 0 0) := K0.out.cell 10
    have zf := K0.out.frozen
    go_wp2
    go_light
    refine bodyPost_ret (v := .agg #[.int .i64 3, .int .i64 f, .int .i64 v, .int .i64 (1 + sq), .int .i64 rc, .int .i64 rn, .int .i64 ro, .int .i64 rx, .int .i64 ry, .slice none 0 0, .slice none 0 0]) (by simp [results, Try.results66, go_sem, z0, z1, z2, z3, z4, z5, z6, z7, z8, z9, z10]) rfl ⟨⟨3, f, v, 1 + sq, ⟨rc, rn, ro, rx, ry⟩, none, 0, [], none, 0, []⟩, rfl, by first | (simp; done) | (simp; omega), Sep.nil rfl, ?_, ?_⟩
    · exact MgD.bare _ _ _ _ _ _ _
    · iterate 11 (refine Drawn.set ?_ hOld.out hRlt _ _ _ (Nat.le_refl _))
      iterate 5 (refine Drawn.set ?_ hOld.out hRlt _ _ _ (by omega))
      exact Drawn.mk (by omega) (by omega) RD.out GR.out
  ·
    have RD := Lib.hid (RD.out.below ((Below.refl Wc.heap.size Wc).alloc (Nat.le_refl _) (.cells #[.int .i64 4, .int .i64 f, .int .i64 v, .int .i64 0, .int .i64 0, .int .i64 0, .int .i64 0, .int .i64 0, .int .i64 0, .slice none 0 0, .slice none 0 0] 28)))
    have GR := Lib.hid (grownBy_trans GR.out (World.grownBy_alloc Wc (.cells #[.int .i64 4, .int .i64 f, .int .i64 v, .int .i64 0, .int .i64 0, .int .i64 0, .int .i64 0, .int .i64 0, .int .i64 0, .slice none 0 0, .slice none 0 0] 28) (some R)))
    have K0 := Lib.hid (K0.out.alloc (.cells #[.int .i64 4, .int .i64 f, .int .i64 v, .int .i64 0, .int .i64 0, .int .i64 0, .int .i64 0, .int .i64 0, .int .i64 0, .slice none 0 0, .slice none 0 0] 28))
    have K1 : Hid (Blk (Wc.alloc (.cells #[.int .i64 4, .int .i64 f, .int .i64 v, .int .i64 0, .int .i64 0, .int .i64 0, .int .i64 0, .int .i64 0, .int .i64 0, .slice none 0 0, .slice none 0 0] 28)) Wc.heap.size 28 #[.int .i64 4, .int .i64 f, .int .i64 v, .int .i64 0, .int .i64 0, .int .i64 0, .int .i64 0, .int .i64 0, .int .i64 0, .slice none 0 0, .slice none 0 0]) := Blk.new Wc
    have l1 : Wc.heap.size < (Wc.alloc (.cells #[.int .i64 4, .int .i64 f, .int .i64 v, .int .i64 0, .int .i64 0, .int .i64 0, .int .i64 0, .int .i64 0, .int .i64 0, .slice none 0 0, .slice none 0 0] 28)).heap.size := by simp
    have x0 : (Wc.alloc (.cells #[.int .i64 4, .int .i64 f, .int .i64 v, .int .i64 0, .int .i64 0, .int .i64 0, .int .i64 0, .int .i64 0, .int .i64 0, .slice none 0 0, .slice none 0 0] 28)).cell? ⟨Wc.heap.size, 0, none⟩ = some (.int .i64 4) := K1.out.cell 0
    have x1 : (Wc.alloc (.cells #[.int .i64 4, .int .i64 f, .int .i64 v, .int .i64 0, .int .i64 0, .int .i64 0, .int .i64 0, .int .i64 0, .int .i64 0, .slice none 0 0, .slice none 0 0] 28)).cell? ⟨Wc.heap.size, 1, none⟩ = some (.int .i64 f) := K1.out.cell 1
    have x2 : (Wc.alloc (.cells #[.int .i64 4, .int .i64 f, .int .i64 v, .int .i64 0, .int .i64 0, .int .i64 0, .int .i64 0, .int .i64 0, .int .i64 0, .slice none 0 0, .slice none 0 0] 28)).cell? ⟨Wc.heap.size, 2, none⟩ = some (.int .i64 v) := K1.out.cell 2
    have x3 : (Wc.alloc (.cells #[.int .i64 4, .int .i64 f, .int .i64 v, .int .i64 0, .int .i64 0, .int .i64 0, .int .i64 0, .int .i64 0, .int .i64 0, .slice none 0 0, .slice none 0 0] 28)).cell? ⟨Wc.heap.size, 3, none⟩ = some (.int .i64 0) := K1.out.cell 3
    have x4 : (Wc.alloc (.cells #[.int .i64 4, .int .i64 f, .int .i64 v, .int .i64 0, .int .i64 0, .int .i64 0, .int .i64 0, .int .i64 0, .int .i64 0, .slice none 0 0, .slice none 0 0] 28)).cell? ⟨Wc.heap.size, 4, none⟩ = some (.int .i64 0) := K1.out.cell 4
    have x5 : (Wc.alloc (.cells #[.int .i64 4, .int .i64 f, .int .i64 v, .int .i64 0, .int .i64 0, .int .i64 0, .int .i64 0, .int .i64 0, .int .i64 0, .slice none 0 0, .slice none 0 0] 28)).cell? ⟨Wc.heap.size, 5, none⟩ = some (.int .i64 0) := K1.out.cell 5
    have x6 : (Wc.alloc (.cells #[.int .i64 4, .int .i64 f, .int .i64 v, .int .i64 0, .int .i64 0, .int .i64 0, .int .i64 0, .int .i64 0, .int .i64 0, .slice none 0 0, .slice none 0 0] 28)).cell? ⟨Wc.heap.size, 6, none⟩ = some (.int .i64 0) := K1.out.cell 6
    have x7 : (Wc.alloc (.cells #[.int .i64 4, .int .i64 f, .int .i64 v, .int .i64 0, .int .i64 0, .int .i64 0, .int .i64 0, .int .i64 0, .int .i64 0, .slice none 0 0, .slice none 0 0] 28)).cell? ⟨Wc.heap.size, 7, none⟩ = some (.int .i64 0) := K1.out.cell 7
    have x8 : (Wc.alloc (.cells #[.int .i64 4, .int .i64 f, .int .i64 v, .int .i64 0, .int .i64 0, .int .i64 0, .int .i64 0, .int .i64 0, .int .i64 0, .slice none 0 0, .slice none 0 0] 28)).cell? ⟨Wc.heap.size, 8, none⟩ = some (.int .i64 0) := K1.out.cell 8
    have x9 : (Wc.alloc (.cells #[.int .i64 4, .int .i64 f, .int .i64 v, .int .i64 0, .int .i64 0, .int .i64 0, .int .i64 0, .int .i64 0, .int .i64 0, .slice none 0 0, .slice none 0 0] 28)).cell? ⟨Wc.heap.size, 9, none⟩ = some (.slice none 0 0) := K1.out.cell 9
    have x10 : (Wc.alloc (.cells #[.int .i64 4, .int .i64 f, .int .i64 v, .int .i64 0, .int .i64 0, .int .i64 0, .int .i64 0, .int .i64 0, .int .i64 0, .slice none 0 0, .slice none 0 0] 28)).cell? ⟨Wc.heap.size, 10, none⟩ = some (.slice none 0 0) := K1.out.cell 10
    have xf := K1.out.frozen
    have ld := K1.out.lt
    go_wp2_with (fail)
    refine (pickR 3 RD.out (by omega) (by omega) (by omega)).mono ?_
    rintro e Wd ⟨sq, sq0, sq1, rfl, qWd, qWd0, qWd1, hr, hgr⟩
    have RD := Lib.hid hr
    have GR := Lib.hid (grownBy_trans GR.out hgr)
    have K0 := Lib.hid (K0.out.grown hgr (by simp; omega))
    have K1 := Lib.hid (K1.out.grown hgr (by simp; omega))
    clear hr hgr
    clear x0 x1 x2 x3 x4 x5 x6 x7 x8 x9 x10 xf
    clear l1 ld
    have x0 : Wd.cell? ⟨Wc.heap.size, 0, none⟩ = some (.int .i64 4) := K1.out.cell 0
    have x1 : Wd.cell? ⟨Wc.heap.size, 1, none⟩ = some (.int .i64 f) := K1.out.cell 1
    have x2 : Wd.cell? ⟨Wc.heap.size, 2, none⟩ = some (.int .i64 v) := K1.out.cell 2
    have x3 : Wd.cell? ⟨Wc.heap.size, 3, none⟩ = some (.int .i64 0) := K1.out.cell 3
    have x4 : Wd.cell? ⟨Wc.heap.size, 4, none⟩ = some (.int .i64 0) := K1.out.cell 4
    have x5 : Wd.cell? ⟨Wc.heap.size, 5, none⟩ = some (.int .i64 0) := K1.out.cell 5
    have x6 : Wd.cell? ⟨Wc.heap.size, 6, none⟩ = some (.int .i64 0) := K1.out.cell 6
    have x7 : Wd.cell? ⟨Wc.heap.size, 7, none⟩ = some (.int .i64 0) := K1.out.cell 7
    have x8 : Wd.cell? ⟨Wc.heap.size, 8, none⟩ = some (.int .i64 0) := K1.out.cell 8
    have x9 : Wd.cell? ⟨Wc.heap.size, 9, none⟩ = some (.slice none 0 0) := K1.out.cell 9
    have x10 : Wd.cell? ⟨Wc.heap.size, 10, none⟩ = some (.slice none 0 0) := K1.out.cell 10
    have xf := K1.out.frozen
    have ld := K1.out.lt
    go_wp2_with (fail)
    have RD := Lib.hid (RD.out.set w.heap.size Wc.heap.size 3 (.int .i64 (1 + sq)) hOld.out hRlt (by omega))
    have GR := Lib.hid (grown_new GR.out (grownBy_set Wd Wc.heap.size 3 (.int .i64 (1 + sq))) (by omega))
    have K0 := Lib.hid (K0.out.far (show w.heap.size ≠ Wc.heap.size by omega) 3 (.int .i64 (1 + sq)))
    have K1 : Hid (Blk (Wd.setCell ⟨Wc.heap.size, 3, none⟩ (.int .i64 (1 + sq))) Wc.heap.size 28 #[.int .i64 4, .int .i64 f, .int .i64 v, .int .i64 (1 + sq), .int .i64 0, .int .i64 0, .int .i64 0, .int .i64 0, .int .i64 0, .slice none 0 0, .slice none 0 0]) := by have := K1.out.set 3 (.int .i64 (1 + sq)); simpa [Hid] using this
    clear x0 x1 x2 x3 x4 x5 x6 x7 x8 x9 x10 xf
    clear ld
    refine (l20Req RD.out (by omega)).mono ?_
    rintro e We ⟨rc, rn, ro, rx, ry, rfl, qWe, qWe0, qWe1, hr, hgr⟩
    have RD := Lib.hid hr
    have GR := Lib.hid (grownBy_trans GR.out hgr)
    have K0 := Lib.hid (K0.out.grown hgr (by simp; omega))
    have K1 := Lib.hid (K1.out.grown hgr (by simp; omega))
    clear hr hgr
    have x0 : We.cell? ⟨Wc.heap.size, 0, none⟩ = some (.int .i64 4) := K1.out.cell 0
    have x1 : We.cell? ⟨Wc.heap.size, 1, none⟩ = some (.int .i64 f) := K1.out.cell 1
    have x2 : We.cell? ⟨Wc.heap.size, 2, none⟩ = some (.int .i64 v) := K1.out.cell 2
    have x3 : We.cell? ⟨Wc.heap.size, 3, none⟩ = some (.int .i64 (1 + sq)) := K1.out.cell 3
    have x4 : We.cell? ⟨Wc.heap.size, 4, none⟩ = some (.int .i64 0) := K1.out.cell 4
    have x5 : We.cell? ⟨Wc.heap.size, 5, none⟩ = some (.int .i64 0) := K1.out.cell 5
    have x6 : We.cell? ⟨Wc.heap.size, 6, none⟩ = some (.int .i64 0) := K1.out.cell 6
    have x7 : We.cell? ⟨Wc.heap.size, 7, none⟩ = some (.int .i64 0) := K1.out.cell 7
    have x8 : We.cell? ⟨Wc.heap.size, 8, none⟩ = some (.int .i64 0) := K1.out.cell 8
    have x9 : We.cell? ⟨Wc.heap.size, 9, none⟩ = some (.slice none 0 0) := K1.out.cell 9
    have x10 : We.cell? ⟨Wc.heap.size, 10, none⟩ = some (.slice none 0 0) := K1.out.cell 10
    have xf := K1.out.frozen
    have ld := K1.out.lt
    have z0 : We.cell? ⟨w.heap.size, 0, none⟩ = some (.int .i64 0) := K0.out.cell 0
    have z1 : We.cell? ⟨w.heap.size, 1, none⟩ = some (.int .i64 0) := K0.out.cell 1
    have z2 : We.cell? ⟨w.heap.size, 2, none⟩ = some (.int .i64 0) := K0.out.cell 2
    have z3 : We.cell? ⟨w.heap.size, 3, none⟩ = some (.int .i64 0) := K0.out.cell 3
    have z4 : We.cell? ⟨w.heap.size, 4, none⟩ = some (.int .i64 0) := K0.out.cell 4
    have z5 : We.cell? ⟨w.heap.size, 5, none⟩ = some (.int .i64 0) := K0.out.cell 5
    have z6 : We.cell? ⟨w.heap.size, 6, none⟩ = some (.int .i64 0) := K0.out.cell 6
    have z7 : We.cell? ⟨w.heap.size, 7, none⟩ = some (.int .i64 0) := K0.out.cell 7
    have z8 : We.cell? ⟨w.heap.size, 8, none⟩ = some (.int .i64 0) := K0.out.cell 8
    have z9 : We.cell? ⟨w.heap.size, 9, none⟩ = some (.slice none 0 0) := K0.out.cell 9
    have z10 : We.cell? ⟨w.heap.size, 10, none⟩ = some (.slice none 0 0) := K0.out.cell 10
    have zf := K0.out.frozen
    go_wp2
    go_light
    refine bodyPost_ret (v := .agg #[.int .i64 4, .int .i64 f, .int .i64 v, .int .i64 (1 + sq), .int .i64 rc, .int .i64 rn, .int .i64 ro, .int .i64 rx, .int .i64 ry, .slice none 0 0, .slice none 0 0]) (by simp [results, Try.results66, go_sem, z0, z1, z2, z3, z4, z5, z6, z7, z8, z9, z10]) rfl ⟨⟨4, f, v, 1 + sq, ⟨rc, rn, ro, rx, ry⟩, none, 0, [], none, 0, []⟩, rfl, by first | (simp; done) | (simp; omega), Sep.nil rfl, ?_, ?_⟩
    · exact MgD.bare _ _ _ _ _ _ _
    · iterate 11 (refine Drawn.set ?_ hOld.out hRlt _ _ _ (Nat.le_refl _))
      iterate 5 (refine Drawn.set ?_ hOld.out hRlt _ _ _ (by omega))
      exact Drawn.mk (by omega) (by omega) RD.out GR.out
  ·
    have RD := Lib.hid (RD.out.below ((Below.refl Wc.heap.size Wc).alloc (Nat.le_refl _) (.cells #[.int .i64 5, .int .i64 f, .int .i64 v, .int .i64 0, .int .i64 0, .int .i64 0, .int .i64 0, .int .i64 0, .int .i64 0, .slice none 0 0, .slice none 0 0] 28)))
    have GR := Lib.hid (grownBy_trans GR.out (World.grownBy_alloc Wc (.cells #[.int .i64 5, .int .i64 f, .int .i64 v, .int .i64 0, .int .i64 0, .int .i64 0, .int .i64 0, .int .i64 0, .int .i64 0, .slice none 0 0, .slice none 0 0] 28) (some R)))
    have K0 := Lib.hid (K0.out.alloc (.cells #[.int .i64 5, .int .i64 f, .int .i64 v, .int .i64 0, .int .i64 0, .int .i64 0, .int .i64 0, .int .i64 0, .int .i64 0, .slice none 0 0, .slice none 0 0] 28))
    have K1 : Hid (Blk (Wc.alloc (.cells #[.int .i64 5, .int .i64 f, .int .i64 v, .int .i64 0, .int .i64 0, .int .i64 0, .int .i64 0, .int .i64 0, .int .i64 0, .slice none 0 0, .slice none 0 0] 28)) Wc.heap.size 28 #[.int .i64 5, .int .i64 f, .int .i64 v, .int .i64 0, .int .i64 0, .int .i64 0, .int .i64 0, .int .i64 0, .int .i64 0, .slice none 0 0, .slice none 0 0]) := Blk.new Wc
    have l1 : Wc.heap.size < (Wc.alloc (.cells #[.int .i64 5, .int .i64 f, .int .i64 v, .int .i64 0, .int .i64 0, .int .i64 0, .int .i64 0, .int .i64 0, .int .i64 0, .slice none 0 0, .slice none 0 0] 28)).heap.size := by simp
    have x0 : (Wc.alloc (.cells #[.int .i64 5, .int .i64 f, .int .i64 v, .int .i64 0, .int .i64 0, .int .i64 0, .int .i64 0, .int .i64 0, .int .i64 0, .slice none 0 0, .slice none 0 0] 28)).cell? ⟨Wc.heap.size, 0, none⟩ = some (.int .i64 5) := K1.out.cell 0
    have x1 : (Wc.alloc (.cells #[.int .i64 5, .int .i64 f, .int .i64 v, .int .i64 0, .int .i64 0, .int .i64 0, .int .i64 0, .int .i64 0, .int .i64 0, .slice none 0 0, .slice none 0 0] 28)).cell? ⟨Wc.heap.size, 1, none⟩ = some (.int .i64 f) := K1.out.cell 1
    have x2 : (Wc.alloc (.cells #[.int .i64 5, .int .i64 f, .int .i64 v, .int .i64 0, .int .i64 0, .int .i64 0, .int .i64 0, .int .i64 0, .int .i64 0, .slice none 0 0, .slice none 0 0] 28)).cell? ⟨Wc.heap.size, 2, none⟩ = some (.int .i64 v) := K1.out.cell 2
    have x3 : (Wc.alloc (.cells #[.int .i64 5, .int .i64 f, .int .i64 v, .int .i64 0, .int .i64 0, .int .i64 0, .int .i64 0, .int .i64 0, .int .i64 0, .slice none 0 0, .slice none 0 0] 28)).cell? ⟨Wc.heap.size, 3, none⟩ = some (.int .i64 0) := K1.out.cell 3
    have x4 : (Wc.alloc (.cells #[.int .i64 5, .int .i64 f, .int .i64 v, .int .i64 0, .int .i64 0, .int .i64 0, .int .i64 0, .int .i64 0, .int .i64 0, .slice none 0 0, .slice none 0 0] 28)).cell? ⟨Wc.heap.size, 4, none⟩ = some (.int .i64 0) := K1.out.cell 4
    have x5 : (Wc.alloc (.cells #[.int .i64 5, .int .i64 f, .int .i64 v, .int .i64 0, .int .i64 0, .int .i64 0, .int .i64 0, .int .i64 0, .int .i64 0, .slice none 0 0, .slice none 0 0] 28)).cell? ⟨Wc.heap.size, 5, none⟩ = some (.int .i64 0) := K1.out.cell 5
    have x6 : (Wc.alloc (.cells #[.int .i64 5, .int .i64 f, .int .i64 v, .int .i64 0, .int .i64 0, .int .i64 0, .int .i64 0, .int .i64 0, .int .i64 0, .slice none 0 0, .slice none 0 0] 28)).cell? ⟨Wc.heap.size, 6, none⟩ = some (.int .i64 0) := K1.out.cell 6
    have x7 : (Wc.alloc (.cells #[.int .i64 5, .int .i64 f, .int .i64 v, .int .i64 0, .int .i64 0, .int .i64 0, .int .i64 0, .int .i64 0, .int .i64 0, .slice none 0 0, .slice none 0 0] 28)).cell? ⟨Wc.heap.size, 7, none⟩ = some (.int .i64 0) := K1.out.cell 7
    have x8 : (Wc.alloc (.cells #[.int .i64 5, .int .i64 f, .int .i64 v, .int .i64 0, .int .i64 0, .int .i64 0, .int .i64 0, .int .i64 0, .int .i64 0, .slice none 0 0, .slice none 0 0] 28)).cell? ⟨Wc.heap.size, 8, none⟩ = some (.int .i64 0) := K1.out.cell 8
    have x9 : (Wc.alloc (.cells #[.int .i64 5, .int .i64 f, .int .i64 v, .int .i64 0, .int .i64 0, .int .i64 0, .int .i64 0, .int .i64 0, .int .i64 0, .slice none 0 0, .slice none 0 0] 28)).cell? ⟨Wc.heap.size, 9, none⟩ = some (.slice none 0 0) := K1.out.cell 9
    have x10 : (Wc.alloc (.cells #[.int .i64 5, .int .i64 f, .int .i64 v, .int .i64 0, .int .i64 0, .int .i64 0, .int .i64 0, .int .i64 0, .int .i64 0, .slice none 0 0, .slice none 0 0] 28)).cell? ⟨Wc.heap.size, 10, none⟩ = some (.slice none 0 0) := K1.out.cell 10
    have xf := K1.out.frozen
    have ld := K1.out.lt
    have hsz := GR.out.size
    go_wp2_with (fail)
    refine (l20Claims RD.out (by omega)).mono ?_
    rintro e Wd ⟨B, a, l, rfl, hl, ho, qWd, qWd0, qWd1, hr, hgr⟩
    have HO := Lib.hid ho
    have RD := Lib.hid hr
    have GR := Lib.hid (grownBy_trans GR.out hgr)
    have K0 := Lib.hid (K0.out.grown hgr (by simp; omega))
    have K1 := Lib.hid (K1.out.grown hgr (by simp; omega))
    clear hr hgr ho
    clear x0 x1 x2 x3 x4 x5 x6 x7 x8 x9 x10 xf
    clear ld
    have x0 : Wd.cell? ⟨Wc.heap.size, 0, none⟩ = some (.int .i64 5) := K1.out.cell 0
    have x1 : Wd.cell? ⟨Wc.heap.size, 1, none⟩ = some (.int .i64 f) := K1.out.cell 1
    have x2 : Wd.cell? ⟨Wc.heap.size, 2, none⟩ = some (.int .i64 v) := K1.out.cell 2
    have x3 : Wd.cell? ⟨Wc.heap.size, 3, none⟩ = some (.int .i64 0) := K1.out.cell 3
    have x4 : Wd.cell? ⟨Wc.heap.size, 4, none⟩ = some (.int .i64 0) := K1.out.cell 4
    have x5 : Wd.cell? ⟨Wc.heap.size, 5, none⟩ = some (.int .i64 0) := K1.out.cell 5
    have x6 : Wd.cell? ⟨Wc.heap.size, 6, none⟩ = some (.int .i64 0) := K1.out.cell 6
    have x7 : Wd.cell? ⟨Wc.heap.size, 7, none⟩ = some (.int .i64 0) := K1.out.cell 7
    have x8 : Wd.cell? ⟨Wc.heap.size, 8, none⟩ = some (.int .i64 0) := K1.out.cell 8
    have x9 : Wd.cell? ⟨Wc.heap.size, 9, none⟩ = some (.slice none 0 0) := K1.out.cell 9
    have x10 : Wd.cell? ⟨Wc.heap.size, 10, none⟩ = some (.slice none 0 0) := K1.out.cell 10
    have xf := K1.out.frozen
    have ld := K1.out.lt
    have z0 : Wd.cell? ⟨w.heap.size, 0, none⟩ = some (.int .i64 0) := K0.out.cell 0
    have z1 : Wd.cell? ⟨w.heap.size, 1, none⟩ = some (.int .i64 0) := K0.out.cell 1
    have z2 : Wd.cell? ⟨w.heap.size, 2, none⟩ = some (.int .i64 0) := K0.out.cell 2
    have z3 : Wd.cell? ⟨w.heap.size, 3, none⟩ = some (.int .i64 0) := K0.out.cell 3
    have z4 : Wd.cell? ⟨w.heap.size, 4, none⟩ = some (.int .i64 0) := K0.out.cell 4
    have z5 : Wd.cell? ⟨w.heap.size, 5, none⟩ = some (.int .i64 0) := K0.out.cell 5
    have z6 : Wd.cell? ⟨w.heap.size, 6, none⟩ = some (.int .i64 0) := K0.out.cell 6
    have z7 : Wd.cell? ⟨w.heap.size, 7, none⟩ = some (.int .i64 0) := K0.out.cell 7
    have z8 : Wd.cell? ⟨w.heap.size, 8, none⟩ = some (.int .i64 0) := K0.out.cell 8
    have z9 : Wd.cell? ⟨w.heap.size, 9, none⟩ = some (.slice none 0 0) := K0.out.cell 9
    have z10 : Wd.cell? ⟨w.heap.size, 10, none⟩ = some (.slice none 0 0) := K0.out.cell 10
    have zf := K0.out.frozen
    go_wp2
    go_light
    refine bodyPost_ret (v := .agg #[.int .i64 5, .int .i64 f, .int .i64 v, .int .i64 0, .int .i64 0, .int .i64 0, .int .i64 0, .int .i64 0, .int .i64 0, .slice B l.length a, .slice none 0 0]) (by simp [results, Try.results66, go_sem, z0, z1, z2, z3, z4, z5, z6, z7, z8, z9, z10]) rfl ⟨⟨5, f, v, 0, ⟨0, 0, 0, 0, 0⟩, B, a, l, none, 0, []⟩, rfl, by first | (simp; done) | (simp; omega), Sep.nil rfl, ?_, ?_⟩
    · have o1 := own_set HO.out (b := Wc.heap.size) (by simp) 9 (.slice B l.length a)
      have o1 := own_set o1 (b := w.heap.size) (by simp; omega) 0 (.int .i64 5)
      have o1 := own_set o1 (b := w.heap.size) (by simp; omega) 1 (.int .i64 f)
      have o1 := own_set o1 (b := w.heap.size) (by simp; omega) 2 (.int .i64 v)
      have o1 := own_set o1 (b := w.heap.size) (by simp; omega) 3 (.int .i64 0)
      have o1 := own_set o1 (b := w.heap.size) (by simp; omega) 4 (.int .i64 0)
      have o1 := own_set o1 (b := w.heap.size) (by simp; omega) 5 (.int .i64 0)
      have o1 := own_set o1 (b := w.heap.size) (by simp; omega) 6 (.int .i64 0)
      have o1 := own_set o1 (b := w.heap.size) (by simp; omega) 7 (.int .i64 0)
      have o1 := own_set o1 (b := w.heap.size) (by simp; omega) 8 (.int .i64 0)
      have o1 := own_set o1 (b := w.heap.size) (by simp; omega) 9 (.slice B l.length a)
      have o1 := own_set o1 (b := w.heap.size) (by simp; omega) 10 (.slice none 0 0)
      refine ⟨by simp; omega, by simp, by simp, own_base o1 (by simp; omega), World.ownsRow_nil _ _ _ _, by simp⟩
    · iterate 11 (refine Drawn.set ?_ hOld.out hRlt _ _ _ (Nat.le_refl _))
      iterate 1 (refine Drawn.set ?_ hOld.out hRlt _ _ _ (by omega))
      exact Drawn.mk (by omega) (by omega) RD.out GR.out
  ·
    have RD := Lib.hid (RD.out.below ((Below.refl Wc.heap.size Wc).alloc (Nat.le_refl _) (.cells #[.int .i64 6, .int .i64 f, .int .i64 v, .int .i64 0, .int .i64 0, .int .i64 0, .int .i64 0, .int .i64 0, .int .i64 0, .slice none 0 0, .slice none 0 0] 28)))
    have GR := Lib.hid (grownBy_trans GR.out (World.grownBy_alloc Wc (.cells #[.int .i64 6, .int .i64 f, .int .i64 v, .int .i64 0, .int .i64 0, .int .i64 0, .int .i64 0, .int .i64 0, .int .i64 0, .slice none 0 0, .slice none 0 0] 28) (some R)))
    have K0 := Lib.hid (K0.out.alloc (.cells #[.int .i64 6, .int .i64 f, .int .i64 v, .int .i64 0, .int .i64 0, .int .i64 0, .int .i64 0, .int .i64 0, .int .i64 0, .slice none 0 0, .slice none 0 0] 28))
    have K1 : Hid (Blk (Wc.alloc (.cells #[.int .i64 6, .int .i64 f, .int .i64 v, .int .i64 0, .int .i64 0, .int .i64 0, .int .i64 0, .int .i64 0, .int .i64 0, .slice none 0 0, .slice none 0 0] 28)) Wc.heap.size 28 #[.int .i64 6, .int .i64 f, .int .i64 v, .int .i64 0, .int .i64 0, .int .i64 0, .int .i64 0, .int .i64 0, .int .i64 0, .slice none 0 0, .slice none 0 0]) := Blk.new Wc
    have l1 : Wc.heap.size < (Wc.alloc (.cells #[.int .i64 6, .int .i64 f, .int .i64 v, .int .i64 0, .int .i64 0, .int .i64 0, .int .i64 0, .int .i64 0, .int .i64 0, .slice none 0 0, .slice none 0 0] 28)).heap.size := by simp
    have x0 : (Wc.alloc (.cells #[.int .i64 6, .int .i64 f, .int .i64 v, .int .i64 0, .int .i64 0, .int .i64 0, .int .i64 0, .int .i64 0, .int .i64 0, .slice none 0 0, .slice none 0 0] 28)).cell? ⟨Wc.heap.size, 0, none⟩ = some (.int .i64 6) := K1.out.cell 0
    have x1 : (Wc.alloc (.cells #[.int .i64 6, .int .i64 f, .int .i64 v, .int .i64 0, .int .i64 0, .int .i64 0, .int .i64 0, .int .i64 0, .int .i64 0, .slice none 0 0, .slice none 0 0] 28)).cell? ⟨Wc.heap.size, 1, none⟩ = some (.int .i64 f) := K1.out.cell 1
    have x2 : (Wc.alloc (.cells #[.int .i64 6, .int .i64 f, .int .i64 v, .int .i64 0, .int .i64 0, .int .i64 0, .int .i64 0, .int .i64 0, .int .i64 0, .slice none 0 0, .slice none 0 0] 28)).cell? ⟨Wc.heap.size, 2, none⟩ = some (.int .i64 v) := K1.out.cell 2
    have x3 : (Wc.alloc (.cells #[.int .i64 6, .int .i64 f, .int .i64 v, .int .i64 0, .int .i64 0, .int .i64 0, .int .i64 0, .int .i64 0, .int .i64 0, .slice none 0 0, .slice none 0 0] 28)).cell? ⟨Wc.heap.size, 3, none⟩ = some (.int .i64 0) := K1.out.cell 3
    have x4 : (Wc.alloc (.cells #[.int .i64 6, .int .i64 f, .int .i64 v, .int .i64 0, .int .i64 0, .int .i64 0, .int .i64 0, .int .i64 0, .int .i64 0, .slice none 0 0, .slice none 0 0] 28)).cell? ⟨Wc.heap.size, 4, none⟩ = some (.int .i64 0) := K1.out.cell 4
    have x5 : (Wc.alloc (.cells #[.int .i64 6, .int .i64 f, .int .i64 v, .int .i64 0, .int .i64 0, .int .i64 0, .int .i64 0, .int .i64 0, .int .i64 0, .slice none 0 0, .slice none 0 0] 28)).cell? ⟨Wc.heap.size, 5, none⟩ = some (.int .i64 0) := K1.out.cell 5
    have x6 : (Wc.alloc (.cells #[.int .i64 6, .int .i64 f, .int .i64 v, .int .i64 0, .int .i64 0, .int .i64 0, .int .i64 0, .int .i64 0, .int .i64 0, .slice none 0 0, .slice none 0 0] 28)).cell? ⟨Wc.heap.size, 6, none⟩ = some (.int .i64 0) := K1.out.cell 6
    have x7 : (Wc.alloc (.cells #[.int .i64 6, .int .i64 f, .int .i64 v, .int .i64 0, .int .i64 0, .int .i64 0, .int .i64 0, .int .i64 0, .int .i64 0, .slice none 0 0, .slice none 0 0] 28)).cell? ⟨Wc.heap.size, 7, none⟩ = some (.int .i64 0) := K1.out.cell 7
    have x8 : (Wc.alloc (.cells #[.int .i64 6, .int .i64 f, .int .i64 v, .int .i64 0, .int .i64 0, .int .i64 0, .int .i64 0, .int .i64 0, .int .i64 0, .slice none 0 0, .slice none 0 0] 28)).cell? ⟨Wc.heap.size, 8, none⟩ = some (.int .i64 0) := K1.out.cell 8
    have x9 : (Wc.alloc (.cells #[.int .i64 6, .int .i64 f, .int .i64 v, .int .i64 0, .int .i64 0, .int .i64 0, .int .i64 0, .int .i64 0, .int .i64 0, .slice none 0 0, .slice none 0 0] 28)).cell? ⟨Wc.heap.size, 9, none⟩ = some (.slice none 0 0) := K1.out.cell 9
    have x10 : (Wc.alloc (.cells #[.int .i64 6, .int .i64 f, .int .i64 v, .int .i64 0, .int .i64 0, .int .i64 0, .int .i64 0, .int .i64 0, .int .i64 0, .slice none 0 0, .slice none 0 0] 28)).cell? ⟨Wc.heap.size, 10, none⟩ = some (.slice none 0 0) := K1.out.cell 10
    have xf := K1.out.frozen
    have ld := K1.out.lt
    have hsz := GR.out.size
    go_wp2_with (fail)
    refine (l20Votes RD.out (by omega)).mono ?_
    rintro e Wd ⟨B, a, V, rfl, hl, ho, hO, qWd, qWd0, qWd1, hr, hgr⟩
    have HO := Lib.hid ho
    have HV := Lib.hid hO
    have RD := Lib.hid hr
    have GR := Lib.hid (grownBy_trans GR.out hgr)
    have K0 := Lib.hid (K0.out.grown hgr (by simp; omega))
    have K1 := Lib.hid (K1.out.grown hgr (by simp; omega))
    clear hr hgr ho hO
    clear x0 x1 x2 x3 x4 x5 x6 x7 x8 x9 x10 xf
    clear ld
    have x0 : Wd.cell? ⟨Wc.heap.size, 0, none⟩ = some (.int .i64 6) := K1.out.cell 0
    have x1 : Wd.cell? ⟨Wc.heap.size, 1, none⟩ = some (.int .i64 f) := K1.out.cell 1
    have x2 : Wd.cell? ⟨Wc.heap.size, 2, none⟩ = some (.int .i64 v) := K1.out.cell 2
    have x3 : Wd.cell? ⟨Wc.heap.size, 3, none⟩ = some (.int .i64 0) := K1.out.cell 3
    have x4 : Wd.cell? ⟨Wc.heap.size, 4, none⟩ = some (.int .i64 0) := K1.out.cell 4
    have x5 : Wd.cell? ⟨Wc.heap.size, 5, none⟩ = some (.int .i64 0) := K1.out.cell 5
    have x6 : Wd.cell? ⟨Wc.heap.size, 6, none⟩ = some (.int .i64 0) := K1.out.cell 6
    have x7 : Wd.cell? ⟨Wc.heap.size, 7, none⟩ = some (.int .i64 0) := K1.out.cell 7
    have x8 : Wd.cell? ⟨Wc.heap.size, 8, none⟩ = some (.int .i64 0) := K1.out.cell 8
    have x9 : Wd.cell? ⟨Wc.heap.size, 9, none⟩ = some (.slice none 0 0) := K1.out.cell 9
    have x10 : Wd.cell? ⟨Wc.heap.size, 10, none⟩ = some (.slice none 0 0) := K1.out.cell 10
    have xf := K1.out.frozen
    have ld := K1.out.lt
    have z0 : Wd.cell? ⟨w.heap.size, 0, none⟩ = some (.int .i64 0) := K0.out.cell 0
    have z1 : Wd.cell? ⟨w.heap.size, 1, none⟩ = some (.int .i64 0) := K0.out.cell 1
    have z2 : Wd.cell? ⟨w.heap.size, 2, none⟩ = some (.int .i64 0) := K0.out.cell 2
    have z3 : Wd.cell? ⟨w.heap.size, 3, none⟩ = some (.int .i64 0) := K0.out.cell 3
    have z4 : Wd.cell? ⟨w.heap.size, 4, none⟩ = some (.int .i64 0) := K0.out.cell 4
    have z5 : Wd.cell? ⟨w.heap.size, 5, none⟩ = some (.int .i64 0) := K0.out.cell 5
    have z6 : Wd.cell? ⟨w.heap.size, 6, none⟩ = some (.int .i64 0) := K0.out.cell 6
    have z7 : Wd.cell? ⟨w.heap.size, 7, none⟩ = some (.int .i64 0) := K0.out.cell 7
    have z8 : Wd.cell? ⟨w.heap.size, 8, none⟩ = some (.int .i64 0) := K0.out.cell 8
    have z9 : Wd.cell? ⟨w.heap.size, 9, none⟩ = some (.slice none 0 0) := K0.out.cell 9
    have z10 : Wd.cell? ⟨w.heap.size, 10, none⟩ = some (.slice none 0 0) := K0.out.cell 10
    have zf := K0.out.frozen
    go_wp2
    go_light
    refine bodyPost_ret (v := .agg #[.int .i64 6, .int .i64 f, .int .i64 v, .int .i64 0, .int .i64 0, .int .i64 0, .int .i64 0, .int .i64 0, .int .i64 0, .slice none 0 0, .slice B V.length a]) (by simp [results, Try.results66, go_sem, z0, z1, z2, z3, z4, z5, z6, z7, z8, z9, z10]) rfl ⟨⟨6, f, v, 0, ⟨0, 0, 0, 0, 0⟩, none, 0, [], B, a, V⟩, rfl, by first | (simp; done) | (simp; omega), Sep.none rfl, ?_, ?_⟩
    · refine ⟨by simp, by simpa using hl, fun x hx => (HV.out x hx).1, World.ownsRow_nil _ _ _ _, ?_, fun x hx => ?_⟩
      ·
        have o1 := own_set HO.out (b := Wc.heap.size) (by simp) 10 (.slice B V.length a)
        have o1 := own_set o1 (b := w.heap.size) (by simp; omega) 0 (.int .i64 6)
        have o1 := own_set o1 (b := w.heap.size) (by simp; omega) 1 (.int .i64 f)
        have o1 := own_set o1 (b := w.heap.size) (by simp; omega) 2 (.int .i64 v)
        have o1 := own_set o1 (b := w.heap.size) (by simp; omega) 3 (.int .i64 0)
        have o1 := own_set o1 (b := w.heap.size) (by simp; omega) 4 (.int .i64 0)
        have o1 := own_set o1 (b := w.heap.size) (by simp; omega) 5 (.int .i64 0)
        have o1 := own_set o1 (b := w.heap.size) (by simp; omega) 6 (.int .i64 0)
        have o1 := own_set o1 (b := w.heap.size) (by simp; omega) 7 (.int .i64 0)
        have o1 := own_set o1 (b := w.heap.size) (by simp; omega) 8 (.int .i64 0)
        have o1 := own_set o1 (b := w.heap.size) (by simp; omega) 9 (.slice none 0 0)
        have o1 := own_set o1 (b := w.heap.size) (by simp; omega) 10 (.slice B V.length a)
        exact own_base o1 (by simp; omega)
      ·
        have o1 := own_set (HV.out x hx).2 (b := Wc.heap.size) (by simp) 10 (.slice B V.length a)
        have o1 := own_set o1 (b := w.heap.size) (by simp; omega) 0 (.int .i64 6)
        have o1 := own_set o1 (b := w.heap.size) (by simp; omega) 1 (.int .i64 f)
        have o1 := own_set o1 (b := w.heap.size) (by simp; omega) 2 (.int .i64 v)
        have o1 := own_set o1 (b := w.heap.size) (by simp; omega) 3 (.int .i64 0)
        have o1 := own_set o1 (b := w.heap.size) (by simp; omega) 4 (.int .i64 0)
        have o1 := own_set o1 (b := w.heap.size) (by simp; omega) 5 (.int .i64 0)
        have o1 := own_set o1 (b := w.heap.size) (by simp; omega) 6 (.int .i64 0)
        have o1 := own_set o1 (b := w.heap.size) (by simp; omega) 7 (.int .i64 0)
        have o1 := own_set o1 (b := w.heap.size) (by simp; omega) 8 (.int .i64 0)
        have o1 := own_set o1 (b := w.heap.size) (by simp; omega) 9 (.slice none 0 0)
        have o1 := own_set o1 (b := w.heap.size) (by simp; omega) 10 (.slice B V.length a)
        exact own_base o1 (by simp; omega)
    · iterate 11 (refine Drawn.set ?_ hOld.out hRlt _ _ _ (Nat.le_refl _))
      iterate 1 (refine Drawn.set ?_ hOld.out hRlt _ _ _ (by omega))
      exact Drawn.mk (by omega) (by omega) RD.out GR.out

end Go.Proofs.Ytjpbflehedbijaa
