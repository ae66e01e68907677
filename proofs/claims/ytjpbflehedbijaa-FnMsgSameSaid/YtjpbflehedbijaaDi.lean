/- Two letters drawn. -/
import Derived.Test.YtjpbflehedbijaaDh
namespace Go.Proofs.Ytjpbflehedbijaa
open Go.ChangeShapes Go.WideShapes Go.ChangeAt Go.RowKit
set_option linter.unusedVariables false
set_option linter.unusedSimpArgs false

/-- A letter of the call's own, one claim more let in. -/
structure MgD5 (w : World) (lo : Nat) (m : MgP) : Prop where
  nc : m.cl.length ≤ 5
  nv : m.vt.length ≤ 4
  oc : w.ownsRow lo 60 7 (.slice m.A m.cl.length m.a) m.cl.length (m.cl.flatMap Cl.cells)
  ov : w.ownsRow lo 66 2 (.slice m.B m.vt.length m.b) m.vt.length (m.vt.flatMap VtP.cells)
  oo : ∀ v ∈ m.vt, v.own w lo
theorem MgD.dr {w : World} {lo : Nat} {m : MgP} (h : MgD w lo m) : MgD w.drew lo m := ⟨h.nc, h.nv, h.n3, h.oc, h.ov, h.oo⟩
theorem MgD5.dr {w : World} {lo : Nat} {m : MgP} (h : MgD5 w lo m) : MgD5 w.drew lo m := ⟨h.nc, h.nv, h.oc, h.ov, h.oo⟩
theorem MgD5.rd {w : World} {lo : Nat} {m : MgP} (h : MgD5 w lo m) : m.rd w := ⟨by have := h.nc; unfold maxLen; omega, by have := h.nv; unfold maxLen; omega, Rd.of_own Cl.len h.oc rfl, Rd.of_own VtP.len h.ov rfl, fun v hv => (h.oo v hv).rd⟩
theorem MgD5.set {w : World} {lo : Nat} {m : MgP} (h : MgD5 w lo m) {b : Nat} (hb : b < lo) (o : Nat) (u : Value) : MgD5 (w.setCell ⟨b, o, none⟩ u) lo m := ⟨h.nc, h.nv, own_set h.oc hb o u, own_set h.ov hb o u, fun v hv => (h.oo v hv).set hb o u⟩
theorem MgD5.setB {w : World} {lo : Nat} {m : MgP} (h : MgD5 w lo m) {b : Nat} {cs : Array Value} (hk : Blk w b 28 cs) (o : Nat) (u : Value) : MgD5 (w.setCell ⟨b, o, none⟩ u) lo m :=
  ⟨h.nc, h.nv, h.oc.kept (grownBy_set w b o u) (.inr (own_ne h.oc hk (by decide))), h.ov.kept (grownBy_set w b o u) (.inr (own_ne h.ov hk (by decide))), fun v hv => World.ownsRow.kept (h.oo v hv) (grownBy_set w b o u) (.inr (own_ne (h.oo v hv) hk (by decide)))⟩
theorem own_old {w0 w w' : World} {base base' : Nat} {e : TypeId} {size : Nat} {v : Value} {n : Nat} {xs xs' : List Value} {row : Option Nat} (h0 : w0.ownsRow base' e size v n xs') (hg : w.grownBy w' row) (hr : ∀ k, row = some k → w0.heap.size ≤ k) (h : w.ownsRow base e size v n xs) : w'.ownsRow base e size v n xs := by
  refine h.kept hg ?_
  rcases hq : v.ownBlock with _ | x
  · exact .inl rfl
  · exact .inr fun e => by have h1 := hr x e.symm; have h2 := (own_block_ge h0 x hq).2; omega
theorem MgD.old {w0 w w' : World} {lo lo' : Nat} {m : MgP} {row : Option Nat} (h0 : MgD w0 lo' m) (hg : w.grownBy w' row) (hr : ∀ k, row = some k → w0.heap.size ≤ k) (h : MgD w lo m) : MgD w' lo m :=
  ⟨h.nc, h.nv, h.n3, own_old h0.oc hg hr h.oc, own_old h0.ov hg hr h.ov, fun v hv => own_old (h0.oo v hv) hg hr (h.oo v hv)⟩

set_option maxRecDepth 100000 in
set_option maxHeartbeats 8000000 in
theorem drawMsgSame {w : World} {A : Option Addr} {n c : Nat} (hn : n ≤ 1048576) (hc : n ≤ c) (hb : InB w A n) :
    Calls Try.prog 8 #[.slice A n c] w fun e w' => ∃ p q : MgP, e = .returned (.tuple #[p.val, q.val]) ∧ p.rd w' ∧ q.rd w' ∧ p.cl.length ≤ 5 ∧ p.vt.length ≤ 5 ∧ q.cl.length ≤ 5 ∧ q.vt.length ≤ 5 ∧ Below w.heap.size w w' := by
  obtain ⟨i0, hi, hz0, hz1, hz2⟩ := info_parts infoClaim'
  have I1 := Lib.hid hi
  have I2 := Lib.hid hz0
  have I3 := Lib.hid hz1
  have I4 := Lib.hid hz2
  clear hi hz0 hz1 hz2
  have B0 : Hid (Below w.heap.size w ((w.alloc (.cells #[.int .i64 0, .int .i64 0, .int .i64 0, .int .i64 0, .int .i64 0, .int .i64 0, .int .i64 0, .int .i64 0, .int .i64 0, .slice none 0 0, .slice none 0 0] 28)).alloc (.cells #[.int .i64 0, .int .i64 0, .int .i64 0, .int .i64 0, .int .i64 0, .int .i64 0, .int .i64 0, .int .i64 0, .int .i64 0, .slice none 0 0, .slice none 0 0] 28))) := below_alloc2 _ _ _
  have KA : Hid (Blk ((w.alloc (.cells #[.int .i64 0, .int .i64 0, .int .i64 0, .int .i64 0, .int .i64 0, .int .i64 0, .int .i64 0, .int .i64 0, .int .i64 0, .slice none 0 0, .slice none 0 0] 28)).alloc (.cells #[.int .i64 0, .int .i64 0, .int .i64 0, .int .i64 0, .int .i64 0, .int .i64 0, .int .i64 0, .int .i64 0, .int .i64 0, .slice none 0 0, .slice none 0 0] 28)) w.heap.size 28 #[.int .i64 0, .int .i64 0, .int .i64 0, .int .i64 0, .int .i64 0, .int .i64 0, .int .i64 0, .int .i64 0, .int .i64 0, .slice none 0 0, .slice none 0 0]) := (Blk.new w).alloc _
  have KB : Hid (Blk ((w.alloc (.cells #[.int .i64 0, .int .i64 0, .int .i64 0, .int .i64 0, .int .i64 0, .int .i64 0, .int .i64 0, .int .i64 0, .int .i64 0, .slice none 0 0, .slice none 0 0] 28)).alloc (.cells #[.int .i64 0, .int .i64 0, .int .i64 0, .int .i64 0, .int .i64 0, .int .i64 0, .int .i64 0, .int .i64 0, .int .i64 0, .slice none 0 0, .slice none 0 0] 28)) (w.heap.size + 1) 28 #[.int .i64 0, .int .i64 0, .int .i64 0, .int .i64 0, .int .i64 0, .int .i64 0, .int .i64 0, .int .i64 0, .int .i64 0, .slice none 0 0, .slice none 0 0]) := by have := Blk.new (t := 28) (cs := #[.int .i64 0, .int .i64 0, .int .i64 0, .int .i64 0, .int .i64 0, .int .i64 0, .int .i64 0, .int .i64 0, .int .i64 0, .slice none 0 0, .slice none 0 0]) (w.alloc (.cells #[.int .i64 0, .int .i64 0, .int .i64 0, .int .i64 0, .int .i64 0, .int .i64 0, .int .i64 0, .int .i64 0, .int .i64 0, .slice none 0 0, .slice none 0 0] 28)); simpa [Hid] using this
  have HB : Hid (InB ((w.alloc (.cells #[.int .i64 0, .int .i64 0, .int .i64 0, .int .i64 0, .int .i64 0, .int .i64 0, .int .i64 0, .int .i64 0, .int .i64 0, .slice none 0 0, .slice none 0 0] 28)).alloc (.cells #[.int .i64 0, .int .i64 0, .int .i64 0, .int .i64 0, .int .i64 0, .int .i64 0, .int .i64 0, .int .i64 0, .int .i64 0, .slice none 0 0, .slice none 0 0] 28)) A n) := fun i hi => by
    obtain ⟨b, off, u, h1, h2, h3⟩ := hb i hi
    exact ⟨b, off, u, h1, cell_kept B0.out h2, h3⟩
  clear hb
  go_enter Try.func8, Try.ntmps8
  go_wp2_with (fail)
  refine (l20Open hn hc HB.out).mono ?_
  rintro e Wa ⟨mm, rfl, hr, hbl⟩
  have hr2 : Reader Wa (w.heap.size + 1 + 1) A mm c 0 := by simpa using hr
  have RD := Lib.hid hr2
  have hRlt := hr2.lt
  have hOld := Lib.hid hr2.old
  have KA := Lib.hid (KA.out.below hbl)
  have KB := Lib.hid (KB.out.below hbl)
  have BL := Lib.hid (B0.out.trans (hbl.mono (by simp; omega)))
  clear hr hr2 hbl B0 HB
  go_wp2_with (fail)
  refine (l20AnyMsg RD.out (by omega)).mono ?_
  rintro e Wb ⟨m, rfl, hmg, qa, qa0, qa1, hr, hgr⟩
  have hszb := hgr.size
  have RD := Lib.hid hr
  have KA := Lib.hid (KA.out.grown hgr (by simp; omega))
  have KB := Lib.hid (KB.out.grown hgr (by simp))
  have BL := Lib.hid (BL.out.grown hgr BL.out.size (by intro k hk; cases hk; omega))
  have MG := Lib.hid hmg
  have MG0 := Lib.hid hmg
  clear hr hgr hmg
  have NM : m.cl.length ≤ 4 ∧ m.vt.length ≤ 4 := ⟨MG.out.nc, MG.out.nv⟩
  have RD := Lib.hid (RD.out.below ((Below.refl Wb.heap.size Wb).alloc (Nat.le_refl _) (.cells #[.int .i64 m.k, .int .i64 m.f, .int .i64 m.v, .int .i64 m.s, .int .i64 m.r.c, .int .i64 m.r.n, .int .i64 m.r.o, .int .i64 m.r.x, .int .i64 m.r.y, .slice m.A m.cl.length m.a, .slice m.B m.vt.length m.b] 28)))
  have KA := Lib.hid (KA.out.alloc (.cells #[.int .i64 m.k, .int .i64 m.f, .int .i64 m.v, .int .i64 m.s, .int .i64 m.r.c, .int .i64 m.r.n, .int .i64 m.r.o, .int .i64 m.r.x, .int .i64 m.r.y, .slice m.A m.cl.length m.a, .slice m.B m.vt.length m.b] 28))
  have KB := Lib.hid (KB.out.alloc (.cells #[.int .i64 m.k, .int .i64 m.f, .int .i64 m.v, .int .i64 m.s, .int .i64 m.r.c, .int .i64 m.r.n, .int .i64 m.r.o, .int .i64 m.r.x, .int .i64 m.r.y, .slice m.A m.cl.length m.a, .slice m.B m.vt.length m.b] 28))
  have BL := Lib.hid (BL.out.alloc BL.out.size (.cells #[.int .i64 m.k, .int .i64 m.f, .int .i64 m.v, .int .i64 m.s, .int .i64 m.r.c, .int .i64 m.r.n, .int .i64 m.r.o, .int .i64 m.r.x, .int .i64 m.r.y, .slice m.A m.cl.length m.a, .slice m.B m.vt.length m.b] 28))
  have MG := Lib.hid (MG.out.below ((Below.refl _ _).alloc (Nat.le_refl _) (.cells #[.int .i64 m.k, .int .i64 m.f, .int .i64 m.v, .int .i64 m.s, .int .i64 m.r.c, .int .i64 m.r.n, .int .i64 m.r.o, .int .i64 m.r.x, .int .i64 m.r.y, .slice m.A m.cl.length m.a, .slice m.B m.vt.length m.b] 28)))
  have KM : Hid (Blk (Wb.alloc (.cells #[.int .i64 m.k, .int .i64 m.f, .int .i64 m.v, .int .i64 m.s, .int .i64 m.r.c, .int .i64 m.r.n, .int .i64 m.r.o, .int .i64 m.r.x, .int .i64 m.r.y, .slice m.A m.cl.length m.a, .slice m.B m.vt.length m.b] 28)) Wb.heap.size 28 #[.int .i64 m.k, .int .i64 m.f, .int .i64 m.v, .int .i64 m.s, .int .i64 m.r.c, .int .i64 m.r.n, .int .i64 m.r.o, .int .i64 m.r.x, .int .i64 m.r.y, .slice m.A m.cl.length m.a, .slice m.B m.vt.length m.b]) := Blk.new Wb
  go_wp2_with (fail)
  refine (pickR 2 RD.out (by omega) (by omega) (by omega)).mono ?_
  rintro e Wc ⟨d, d0, d1, rfl, qb, qb0, qb1, hr, hgr⟩
  have hszc := hgr.size
  have RD := Lib.hid hr
  have KA := Lib.hid (KA.out.grown hgr (by simp; omega))
  have KB := Lib.hid (KB.out.grown hgr (by simp))
  have KM := Lib.hid (KM.out.grown hgr (by simp; omega))
  have MG := Lib.hid (MG.out.far hgr (fun k hk => by cases hk; omega))
  have BL := Lib.hid (BL.out.grown hgr BL.out.size (by intro k hk; cases hk; omega))
  clear hr hgr
  simp only [alloc_heap_size] at hszc
  have x0 : Wc.cell? ⟨Wb.heap.size, 0, none⟩ = some (.int .i64 m.k) := KM.out.cell 0
  have x1 : Wc.cell? ⟨Wb.heap.size, 1, none⟩ = some (.int .i64 m.f) := KM.out.cell 1
  have x2 : Wc.cell? ⟨Wb.heap.size, 2, none⟩ = some (.int .i64 m.v) := KM.out.cell 2
  have x3 : Wc.cell? ⟨Wb.heap.size, 3, none⟩ = some (.int .i64 m.s) := KM.out.cell 3
  have x4 : Wc.cell? ⟨Wb.heap.size, 4, none⟩ = some (.int .i64 m.r.c) := KM.out.cell 4
  have x5 : Wc.cell? ⟨Wb.heap.size, 5, none⟩ = some (.int .i64 m.r.n) := KM.out.cell 5
  have x6 : Wc.cell? ⟨Wb.heap.size, 6, none⟩ = some (.int .i64 m.r.o) := KM.out.cell 6
  have x7 : Wc.cell? ⟨Wb.heap.size, 7, none⟩ = some (.int .i64 m.r.x) := KM.out.cell 7
  have x8 : Wc.cell? ⟨Wb.heap.size, 8, none⟩ = some (.int .i64 m.r.y) := KM.out.cell 8
  have x9 : Wc.cell? ⟨Wb.heap.size, 9, none⟩ = some (.slice m.A m.cl.length m.a) := KM.out.cell 9
  have x10 : Wc.cell? ⟨Wb.heap.size, 10, none⟩ = some (.slice m.B m.vt.length m.b) := KM.out.cell 10
  by_cases hd : d = 0
  · subst hd
    go_wp2_with (fail)
    refine (l3Copy m _ _ MG.out).mono ?_
    rintro e Wd ⟨q, rfl, hmq, hsep, hmg, hbb⟩
    have hszd := hbb.size
    have RD := Lib.hid (RD.out.below hbb)
    have KA := Lib.hid (KA.out.below hbb)
    have KB := Lib.hid (KB.out.below hbb)
    have KM := Lib.hid (KM.out.below hbb)
    have MG := Lib.hid (MG.out.below hbb)
    have BL := Lib.hid (Below.trans BL.out (hbb.mono (by omega)))
    have MQ : Hid (MgD Wd Wc.heap.size q) := hmg
    have SQ := Lib.hid hsep
    have NQ : q.cl.length ≤ 4 ∧ q.vt.length ≤ 4 := ⟨hmg.nc, hmg.nv⟩
    clear hbb hmg hsep hmq x0 x1 x2 x3 x4 x5 x6 x7 x8 x9 x10
    have RD := Lib.hid (RD.out.below ((Below.refl Wd.heap.size Wd).alloc (Nat.le_refl _) (.cells #[.int .i64 q.k, .int .i64 q.f, .int .i64 q.v, .int .i64 q.s, .int .i64 q.r.c, .int .i64 q.r.n, .int .i64 q.r.o, .int .i64 q.r.x, .int .i64 q.r.y, .slice q.A q.cl.length q.a, .slice q.B q.vt.length q.b] 28)))
    have KA := Lib.hid (KA.out.alloc (.cells #[.int .i64 q.k, .int .i64 q.f, .int .i64 q.v, .int .i64 q.s, .int .i64 q.r.c, .int .i64 q.r.n, .int .i64 q.r.o, .int .i64 q.r.x, .int .i64 q.r.y, .slice q.A q.cl.length q.a, .slice q.B q.vt.length q.b] 28))
    have KB := Lib.hid (KB.out.alloc (.cells #[.int .i64 q.k, .int .i64 q.f, .int .i64 q.v, .int .i64 q.s, .int .i64 q.r.c, .int .i64 q.r.n, .int .i64 q.r.o, .int .i64 q.r.x, .int .i64 q.r.y, .slice q.A q.cl.length q.a, .slice q.B q.vt.length q.b] 28))
    have KM := Lib.hid (KM.out.alloc (.cells #[.int .i64 q.k, .int .i64 q.f, .int .i64 q.v, .int .i64 q.s, .int .i64 q.r.c, .int .i64 q.r.n, .int .i64 q.r.o, .int .i64 q.r.x, .int .i64 q.r.y, .slice q.A q.cl.length q.a, .slice q.B q.vt.length q.b] 28))
    have BL := Lib.hid (BL.out.alloc BL.out.size (.cells #[.int .i64 q.k, .int .i64 q.f, .int .i64 q.v, .int .i64 q.s, .int .i64 q.r.c, .int .i64 q.r.n, .int .i64 q.r.o, .int .i64 q.r.x, .int .i64 q.r.y, .slice q.A q.cl.length q.a, .slice q.B q.vt.length q.b] 28))
    have MG := Lib.hid (MG.out.below ((Below.refl _ _).alloc (Nat.le_refl _) (.cells #[.int .i64 q.k, .int .i64 q.f, .int .i64 q.v, .int .i64 q.s, .int .i64 q.r.c, .int .i64 q.r.n, .int .i64 q.r.o, .int .i64 q.r.x, .int .i64 q.r.y, .slice q.A q.cl.length q.a, .slice q.B q.vt.length q.b] 28)))
    have MQ := Lib.hid (MQ.out.below ((Below.refl _ _).alloc (Nat.le_refl _) (.cells #[.int .i64 q.k, .int .i64 q.f, .int .i64 q.v, .int .i64 q.s, .int .i64 q.r.c, .int .i64 q.r.n, .int .i64 q.r.o, .int .i64 q.r.x, .int .i64 q.r.y, .slice q.A q.cl.length q.a, .slice q.B q.vt.length q.b] 28)))
    have KQ : Hid (Blk (Wd.alloc (.cells #[.int .i64 q.k, .int .i64 q.f, .int .i64 q.v, .int .i64 q.s, .int .i64 q.r.c, .int .i64 q.r.n, .int .i64 q.r.o, .int .i64 q.r.x, .int .i64 q.r.y, .slice q.A q.cl.length q.a, .slice q.B q.vt.length q.b] 28)) Wd.heap.size 28 #[.int .i64 q.k, .int .i64 q.f, .int .i64 q.v, .int .i64 q.s, .int .i64 q.r.c, .int .i64 q.r.n, .int .i64 q.r.o, .int .i64 q.r.x, .int .i64 q.r.y, .slice q.A q.cl.length q.a, .slice q.B q.vt.length q.b]) := Blk.new Wd
    go_wp2_with (fail)
    refine (pickR 4 RD.out (by omega) (by omega) (by omega)).mono ?_
    rintro e We ⟨g, g0, g1, rfl, qe, qe0, qe1, hr, hgr⟩
    have hsze := hgr.size
    have RD := Lib.hid hr
    have KA := Lib.hid (KA.out.grown hgr (by simp; omega))
    have KB := Lib.hid (KB.out.grown hgr (by simp))
    have KM := Lib.hid (KM.out.grown hgr (by simp; omega))
    have KQ := Lib.hid (KQ.out.grown hgr (by simp; omega))
    have MG := Lib.hid (MG.out.far hgr (fun k hk => by cases hk; omega))
    have MQ := Lib.hid (MQ.out.far hgr (fun k hk => by cases hk; omega))
    have BL := Lib.hid (BL.out.grown hgr BL.out.size (by intro k hk; cases hk; omega))
    clear hr hgr
    simp only [alloc_heap_size] at hsze
    by_cases hg0 : g = 0
    · subst hg0
      have x0 : We.cell? ⟨Wd.heap.size, 0, none⟩ = some (.int .i64 q.k) := KQ.out.cell 0
      have x1 : We.cell? ⟨Wd.heap.size, 1, none⟩ = some (.int .i64 q.f) := KQ.out.cell 1
      have x2 : We.cell? ⟨Wd.heap.size, 2, none⟩ = some (.int .i64 q.v) := KQ.out.cell 2
      have x3 : We.cell? ⟨Wd.heap.size, 3, none⟩ = some (.int .i64 q.s) := KQ.out.cell 3
      have x4 : We.cell? ⟨Wd.heap.size, 4, none⟩ = some (.int .i64 q.r.c) := KQ.out.cell 4
      have x5 : We.cell? ⟨Wd.heap.size, 5, none⟩ = some (.int .i64 q.r.n) := KQ.out.cell 5
      have x6 : We.cell? ⟨Wd.heap.size, 6, none⟩ = some (.int .i64 q.r.o) := KQ.out.cell 6
      have x7 : We.cell? ⟨Wd.heap.size, 7, none⟩ = some (.int .i64 q.r.x) := KQ.out.cell 7
      have x8 : We.cell? ⟨Wd.heap.size, 8, none⟩ = some (.int .i64 q.r.y) := KQ.out.cell 8
      have x9 : We.cell? ⟨Wd.heap.size, 9, none⟩ = some (.slice q.A q.cl.length q.a) := KQ.out.cell 9
      have x10 : We.cell? ⟨Wd.heap.size, 10, none⟩ = some (.slice q.B q.vt.length q.b) := KQ.out.cell 10
      have xf := KQ.out.frozen
      have lq := KQ.out.lt
      go_wp2_with (fail)
      generalize wrap64 (q.v + 1) = z
      have KA := Lib.hid (KA.out.far (show w.heap.size ≠ Wd.heap.size by omega) 2 (.int .i64 z))
      have KB := Lib.hid (KB.out.far (show w.heap.size + 1 ≠ Wd.heap.size by omega) 2 (.int .i64 z))
      have KM := Lib.hid (KM.out.far (show Wb.heap.size ≠ Wd.heap.size by omega) 2 (.int .i64 z))
      have MG := Lib.hid (MG.out.setB KQ.out 2 (.int .i64 z))
      have MQ0 := MQ.out.setB KQ.out 2 (.int .i64 z)
      have MQ : Hid (MgD (We.setCell ⟨Wd.heap.size, 2, none⟩ (.int .i64 z)) Wc.heap.size ⟨q.k, q.f, z, q.s, q.r, q.A, q.a, q.cl, q.B, q.b, q.vt⟩) := ⟨MQ0.nc, MQ0.nv, MQ0.n3, MQ0.oc, MQ0.ov, MQ0.oo⟩
      have KQ : Hid (Blk (We.setCell ⟨Wd.heap.size, 2, none⟩ (.int .i64 z)) Wd.heap.size 28 #[.int .i64 q.k, .int .i64 q.f, .int .i64 z, .int .i64 q.s, .int .i64 q.r.c, .int .i64 q.r.n, .int .i64 q.r.o, .int .i64 q.r.x, .int .i64 q.r.y, .slice q.A q.cl.length q.a, .slice q.B q.vt.length q.b]) := by have := KQ.out.set 2 (.int .i64 z); simpa [Hid] using this
      have BL := Lib.hid (BL.out.setCell (by simp; omega) (.int .i64 z) (p := ⟨Wd.heap.size, 2, none⟩))
      clear MQ0 xf lq x0 x1 x2 x3 x4 x5 x6 x7 x8 x9 x10 RD MG0 SQ
      generalize We.setCell ⟨Wd.heap.size, 2, none⟩ (.int .i64 z) = Wf at *
      have hwd : Wb.heap.size < Wd.heap.size := by omega
      have nq0 : ¬ w.heap.size = Wd.heap.size := by omega
      have nq1 : ¬ Wd.heap.size = w.heap.size := by omega
      have a0 : Wf.cell? ⟨w.heap.size, 0, none⟩ = some (.int .i64 0) := KA.out.cell 0
      have a1 : Wf.cell? ⟨w.heap.size, 1, none⟩ = some (.int .i64 0) := KA.out.cell 1
      have a2 : Wf.cell? ⟨w.heap.size, 2, none⟩ = some (.int .i64 0) := KA.out.cell 2
      have a3 : Wf.cell? ⟨w.heap.size, 3, none⟩ = some (.int .i64 0) := KA.out.cell 3
      have a4 : Wf.cell? ⟨w.heap.size, 4, none⟩ = some (.int .i64 0) := KA.out.cell 4
      have a5 : Wf.cell? ⟨w.heap.size, 5, none⟩ = some (.int .i64 0) := KA.out.cell 5
      have a6 : Wf.cell? ⟨w.heap.size, 6, none⟩ = some (.int .i64 0) := KA.out.cell 6
      have a7 : Wf.cell? ⟨w.heap.size, 7, none⟩ = some (.int .i64 0) := KA.out.cell 7
      have a8 : Wf.cell? ⟨w.heap.size, 8, none⟩ = some (.int .i64 0) := KA.out.cell 8
      have a9 : Wf.cell? ⟨w.heap.size, 9, none⟩ = some (.slice none 0 0) := KA.out.cell 9
      have a10 : Wf.cell? ⟨w.heap.size, 10, none⟩ = some (.slice none 0 0) := KA.out.cell 10
      have b0 : Wf.cell? ⟨w.heap.size + 1, 0, none⟩ = some (.int .i64 0) := KB.out.cell 0
      have b1 : Wf.cell? ⟨w.heap.size + 1, 1, none⟩ = some (.int .i64 0) := KB.out.cell 1
      have b2 : Wf.cell? ⟨w.heap.size + 1, 2, none⟩ = some (.int .i64 0) := KB.out.cell 2
      have b3 : Wf.cell? ⟨w.heap.size + 1, 3, none⟩ = some (.int .i64 0) := KB.out.cell 3
      have b4 : Wf.cell? ⟨w.heap.size + 1, 4, none⟩ = some (.int .i64 0) := KB.out.cell 4
      have b5 : Wf.cell? ⟨w.heap.size + 1, 5, none⟩ = some (.int .i64 0) := KB.out.cell 5
      have b6 : Wf.cell? ⟨w.heap.size + 1, 6, none⟩ = some (.int .i64 0) := KB.out.cell 6
      have b7 : Wf.cell? ⟨w.heap.size + 1, 7, none⟩ = some (.int .i64 0) := KB.out.cell 7
      have b8 : Wf.cell? ⟨w.heap.size + 1, 8, none⟩ = some (.int .i64 0) := KB.out.cell 8
      have b9 : Wf.cell? ⟨w.heap.size + 1, 9, none⟩ = some (.slice none 0 0) := KB.out.cell 9
      have b10 : Wf.cell? ⟨w.heap.size + 1, 10, none⟩ = some (.slice none 0 0) := KB.out.cell 10
      have af := KA.out.frozen
      have bf := KB.out.frozen
      have la := KA.out.lt
      have lb := KB.out.lt
      refine wp_region_held_drew (S := fun _ => True) (by kernel_rfl) trivial (fun hS => ?_)
      refine wpAnyH_ready (rs := [0, 1]) (by kernel_rfl) (by simp) ?_
      refine AllReadyH.cons rfl (fun K hK => ?_) (AllReadyH.cons rfl (fun K hK => ?_) AllReadyH.nil)
      · have y0 := (KM.out.cell 0).trans (show _ = some (.int .i64 m.k) from rfl); have y1 := (KM.out.cell 1).trans (show _ = some (.int .i64 m.f) from rfl); have y2 := (KM.out.cell 2).trans (show _ = some (.int .i64 m.v) from rfl); have y3 := (KM.out.cell 3).trans (show _ = some (.int .i64 m.s) from rfl); have y4 := (KM.out.cell 4).trans (show _ = some (.int .i64 m.r.c) from rfl); have y5 := (KM.out.cell 5).trans (show _ = some (.int .i64 m.r.n) from rfl); have y6 := (KM.out.cell 6).trans (show _ = some (.int .i64 m.r.o) from rfl); have y7 := (KM.out.cell 7).trans (show _ = some (.int .i64 m.r.x) from rfl); have y8 := (KM.out.cell 8).trans (show _ = some (.int .i64 m.r.y) from rfl); have y9 := (KM.out.cell 9).trans (show _ = some (.slice m.A m.cl.length m.a) from rfl); have y10 := (KM.out.cell 10).trans (show _ = some (.slice m.B m.vt.length m.b) from rfl)
        go_simp
        refine hK.out _ _ trivial (fun _ => ?_)
        clear y0 y1 y2 y3 y4 y5 y6 y7 y8 y9 y10
        clear hK K
        (try simp only [Act.put, List.setIfInBounds_toArray, List.set_cons_zero, List.set_cons_succ])
        refine wpAnyH_ready (rs := [1, 2]) (by kernel_rfl) (by simp) ?_
        refine AllReadyH.cons rfl (fun K hK => ?_) (AllReadyH.cons rfl (fun K hK => ?_) AllReadyH.nil)
        · have y0 := (KQ.out.cell 0).trans (show _ = some (.int .i64 q.k) from rfl); have y1 := (KQ.out.cell 1).trans (show _ = some (.int .i64 q.f) from rfl); have y2 := (KQ.out.cell 2).trans (show _ = some (.int .i64 z) from rfl); have y3 := (KQ.out.cell 3).trans (show _ = some (.int .i64 q.s) from rfl); have y4 := (KQ.out.cell 4).trans (show _ = some (.int .i64 q.r.c) from rfl); have y5 := (KQ.out.cell 5).trans (show _ = some (.int .i64 q.r.n) from rfl); have y6 := (KQ.out.cell 6).trans (show _ = some (.int .i64 q.r.o) from rfl); have y7 := (KQ.out.cell 7).trans (show _ = some (.int .i64 q.r.x) from rfl); have y8 := (KQ.out.cell 8).trans (show _ = some (.int .i64 q.r.y) from rfl); have y9 := (KQ.out.cell 9).trans (show _ = some (.slice q.A q.cl.length q.a) from rfl); have y10 := (KQ.out.cell 10).trans (show _ = some (.slice q.B q.vt.length q.b) from rfl)
          go_simp
          refine hK.out _ _ trivial (fun _ => ?_)
          clear y0 y1 y2 y3 y4 y5 y6 y7 y8 y9 y10
          clear hK K
          (try simp only [Act.put, List.setIfInBounds_toArray, List.set_cons_zero, List.set_cons_succ])
          refine wpAnyH_ready (rs := [2]) (by kernel_rfl) (by simp) ?_
          refine AllReadyH.cons rfl (fun K hK => ?_) AllReadyH.nil
          · go_simp
            refine hK.out _ _ trivial (fun _ => ?_)
            clear hK K
            (try simp only [Act.put, List.setIfInBounds_toArray, List.set_cons_zero, List.set_cons_succ])
            refine wpAnyH_ready (rs := [3]) (by kernel_rfl) (by simp) ?_
            refine AllReadyH.cons rfl (fun K hK => ?_) AllReadyH.nil
            · go_simp
              refine hK.out _ _ trivial (fun _ => ?_)
              clear hK K
              (try simp only [Act.put, List.setIfInBounds_toArray, List.set_cons_zero, List.set_cons_succ])
              refine wpAnyH_done (by kernel_rfl) ?_ _
              go_wp2
              go_light
              refine bodyPost_ret (v := .tuple #[.agg #[.int .i64 m.k, .int .i64 m.f, .int .i64 m.v, .int .i64 m.s, .int .i64 m.r.c, .int .i64 m.r.n, .int .i64 m.r.o, .int .i64 m.r.x, .int .i64 m.r.y, .slice m.A m.cl.length m.a, .slice m.B m.vt.length m.b], .agg #[.int .i64 q.k, .int .i64 q.f, .int .i64 z, .int .i64 q.s, .int .i64 q.r.c, .int .i64 q.r.n, .int .i64 q.r.o, .int .i64 q.r.x, .int .i64 q.r.y, .slice q.A q.cl.length q.a, .slice q.B q.vt.length q.b]]) (by simp [results, Try.results8, go_sem, a0, a1, a2, a3, a4, a5, a6, a7, a8, a9, a10, b0, b1, b2, b3, b4, b5, b6, b7, b8, b9, b10]) rfl ⟨m, ⟨q.k, q.f, z, q.s, q.r, q.A, q.a, q.cl, q.B, q.b, q.vt⟩, rfl, ?_, ?_, by omega, by omega, by first | omega | (simp; omega), by first | omega | (simp; omega), ?_⟩
              · refine MgD.rd (lo := Wa.heap.size) ?_
                refine MgD.dr ?_
                iterate 22 (refine MgD.set ?_ (by first | omega | (simp; omega)) _ _)
                exact MG.out
              · refine MgD.rd (lo := Wc.heap.size) ?_
                refine MgD.dr ?_
                iterate 22 (refine MgD.set ?_ (by first | omega | (simp; omega)) _ _)
                exact MQ.out
              · refine Below.drew ?_
                iterate 22 (refine Below.setCell ?_ (by first | (simp; done) | (simp; omega)) _)
                exact BL.out
        · go_simp
          refine hK.out _ _ trivial (fun _ => ?_)
          clear hK K
          (try simp only [Act.put, List.setIfInBounds_toArray, List.set_cons_zero, List.set_cons_succ])
          refine wpAnyH_ready (rs := [1]) (by kernel_rfl) (by simp) ?_
          refine AllReadyH.cons rfl (fun K hK => ?_) AllReadyH.nil
          · have y0 := (KQ.out.cell 0).trans (show _ = some (.int .i64 q.k) from rfl); have y1 := (KQ.out.cell 1).trans (show _ = some (.int .i64 q.f) from rfl); have y2 := (KQ.out.cell 2).trans (show _ = some (.int .i64 z) from rfl); have y3 := (KQ.out.cell 3).trans (show _ = some (.int .i64 q.s) from rfl); have y4 := (KQ.out.cell 4).trans (show _ = some (.int .i64 q.r.c) from rfl); have y5 := (KQ.out.cell 5).trans (show _ = some (.int .i64 q.r.n) from rfl); have y6 := (KQ.out.cell 6).trans (show _ = some (.int .i64 q.r.o) from rfl); have y7 := (KQ.out.cell 7).trans (show _ = some (.int .i64 q.r.x) from rfl); have y8 := (KQ.out.cell 8).trans (show _ = some (.int .i64 q.r.y) from rfl); have y9 := (KQ.out.cell 9).trans (show _ = some (.slice q.A q.cl.length q.a) from rfl); have y10 := (KQ.out.cell 10).trans (show _ = some (.slice q.B q.vt.length q.b) from rfl)
            go_simp
            refine hK.out _ _ trivial (fun _ => ?_)
            clear y0 y1 y2 y3 y4 y5 y6 y7 y8 y9 y10
            clear hK K
            (try simp only [Act.put, List.setIfInBounds_toArray, List.set_cons_zero, List.set_cons_succ])
            refine wpAnyH_ready (rs := [3]) (by kernel_rfl) (by simp) ?_
            refine AllReadyH.cons rfl (fun K hK => ?_) AllReadyH.nil
            · go_simp
              refine hK.out _ _ trivial (fun _ => ?_)
              clear hK K
              (try simp only [Act.put, List.setIfInBounds_toArray, List.set_cons_zero, List.set_cons_succ])
              refine wpAnyH_done (by kernel_rfl) ?_ _
              go_wp2
              go_light
              refine bodyPost_ret (v := .tuple #[.agg #[.int .i64 m.k, .int .i64 m.f, .int .i64 m.v, .int .i64 m.s, .int .i64 m.r.c, .int .i64 m.r.n, .int .i64 m.r.o, .int .i64 m.r.x, .int .i64 m.r.y, .slice m.A m.cl.length m.a, .slice m.B m.vt.length m.b], .agg #[.int .i64 q.k, .int .i64 q.f, .int .i64 z, .int .i64 q.s, .int .i64 q.r.c, .int .i64 q.r.n, .int .i64 q.r.o, .int .i64 q.r.x, .int .i64 q.r.y, .slice q.A q.cl.length q.a, .slice q.B q.vt.length q.b]]) (by simp [results, Try.results8, go_sem, a0, a1, a2, a3, a4, a5, a6, a7, a8, a9, a10, b0, b1, b2, b3, b4, b5, b6, b7, b8, b9, b10]) rfl ⟨m, ⟨q.k, q.f, z, q.s, q.r, q.A, q.a, q.cl, q.B, q.b, q.vt⟩, rfl, ?_, ?_, by omega, by omega, by first | omega | (simp; omega), by first | omega | (simp; omega), ?_⟩
              · refine MgD.rd (lo := Wa.heap.size) ?_
                refine MgD.dr ?_
                iterate 22 (refine MgD.set ?_ (by first | omega | (simp; omega)) _ _)
                exact MG.out
              · refine MgD.rd (lo := Wc.heap.size) ?_
                refine MgD.dr ?_
                iterate 22 (refine MgD.set ?_ (by first | omega | (simp; omega)) _ _)
                exact MQ.out
              · refine Below.drew ?_
                iterate 22 (refine Below.setCell ?_ (by first | (simp; done) | (simp; omega)) _)
                exact BL.out
      · have y0 := (KQ.out.cell 0).trans (show _ = some (.int .i64 q.k) from rfl); have y1 := (KQ.out.cell 1).trans (show _ = some (.int .i64 q.f) from rfl); have y2 := (KQ.out.cell 2).trans (show _ = some (.int .i64 z) from rfl); have y3 := (KQ.out.cell 3).trans (show _ = some (.int .i64 q.s) from rfl); have y4 := (KQ.out.cell 4).trans (show _ = some (.int .i64 q.r.c) from rfl); have y5 := (KQ.out.cell 5).trans (show _ = some (.int .i64 q.r.n) from rfl); have y6 := (KQ.out.cell 6).trans (show _ = some (.int .i64 q.r.o) from rfl); have y7 := (KQ.out.cell 7).trans (show _ = some (.int .i64 q.r.x) from rfl); have y8 := (KQ.out.cell 8).trans (show _ = some (.int .i64 q.r.y) from rfl); have y9 := (KQ.out.cell 9).trans (show _ = some (.slice q.A q.cl.length q.a) from rfl); have y10 := (KQ.out.cell 10).trans (show _ = some (.slice q.B q.vt.length q.b) from rfl)
        go_simp
        refine hK.out _ _ trivial (fun _ => ?_)
        clear y0 y1 y2 y3 y4 y5 y6 y7 y8 y9 y10
        clear hK K
        (try simp only [Act.put, List.setIfInBounds_toArray, List.set_cons_zero, List.set_cons_succ])
        refine wpAnyH_ready (rs := [0]) (by kernel_rfl) (by simp) ?_
        refine AllReadyH.cons rfl (fun K hK => ?_) AllReadyH.nil
        · have y0 := (KM.out.cell 0).trans (show _ = some (.int .i64 m.k) from rfl); have y1 := (KM.out.cell 1).trans (show _ = some (.int .i64 m.f) from rfl); have y2 := (KM.out.cell 2).trans (show _ = some (.int .i64 m.v) from rfl); have y3 := (KM.out.cell 3).trans (show _ = some (.int .i64 m.s) from rfl); have y4 := (KM.out.cell 4).trans (show _ = some (.int .i64 m.r.c) from rfl); have y5 := (KM.out.cell 5).trans (show _ = some (.int .i64 m.r.n) from rfl); have y6 := (KM.out.cell 6).trans (show _ = some (.int .i64 m.r.o) from rfl); have y7 := (KM.out.cell 7).trans (show _ = some (.int .i64 m.r.x) from rfl); have y8 := (KM.out.cell 8).trans (show _ = some (.int .i64 m.r.y) from rfl); have y9 := (KM.out.cell 9).trans (show _ = some (.slice m.A m.cl.length m.a) from rfl); have y10 := (KM.out.cell 10).trans (show _ = some (.slice m.B m.vt.length m.b) from rfl)
          go_simp
          refine hK.out _ _ trivial (fun _ => ?_)
          clear y0 y1 y2 y3 y4 y5 y6 y7 y8 y9 y10
          clear hK K
          (try simp only [Act.put, List.setIfInBounds_toArray, List.set_cons_zero, List.set_cons_succ])
          refine wpAnyH_ready (rs := [2]) (by kernel_rfl) (by simp) ?_
          refine AllReadyH.cons rfl (fun K hK => ?_) AllReadyH.nil
          · go_simp
            refine hK.out _ _ trivial (fun _ => ?_)
            clear hK K
            (try simp only [Act.put, List.setIfInBounds_toArray, List.set_cons_zero, List.set_cons_succ])
            refine wpAnyH_ready (rs := [3]) (by kernel_rfl) (by simp) ?_
            refine AllReadyH.cons rfl (fun K hK => ?_) AllReadyH.nil
            · go_simp
              refine hK.out _ _ trivial (fun _ => ?_)
              clear hK K
              (try simp only [Act.put, List.setIfInBounds_toArray, List.set_cons_zero, List.set_cons_succ])
              refine wpAnyH_done (by kernel_rfl) ?_ _
              go_wp2
              go_light
              refine bodyPost_ret (v := .tuple #[.agg #[.int .i64 m.k, .int .i64 m.f, .int .i64 m.v, .int .i64 m.s, .int .i64 m.r.c, .int .i64 m.r.n, .int .i64 m.r.o, .int .i64 m.r.x, .int .i64 m.r.y, .slice m.A m.cl.length m.a, .slice m.B m.vt.length m.b], .agg #[.int .i64 q.k, .int .i64 q.f, .int .i64 z, .int .i64 q.s, .int .i64 q.r.c, .int .i64 q.r.n, .int .i64 q.r.o, .int .i64 q.r.x, .int .i64 q.r.y, .slice q.A q.cl.length q.a, .slice q.B q.vt.length q.b]]) (by simp [results, Try.results8, go_sem, a0, a1, a2, a3, a4, a5, a6, a7, a8, a9, a10, b0, b1, b2, b3, b4, b5, b6, b7, b8, b9, b10]) rfl ⟨m, ⟨q.k, q.f, z, q.s, q.r, q.A, q.a, q.cl, q.B, q.b, q.vt⟩, rfl, ?_, ?_, by omega, by omega, by first | omega | (simp; omega), by first | omega | (simp; omega), ?_⟩
              · refine MgD.rd (lo := Wa.heap.size) ?_
                refine MgD.dr ?_
                iterate 22 (refine MgD.set ?_ (by first | omega | (simp; omega)) _ _)
                exact MG.out
              · refine MgD.rd (lo := Wc.heap.size) ?_
                refine MgD.dr ?_
                iterate 22 (refine MgD.set ?_ (by first | omega | (simp; omega)) _ _)
                exact MQ.out
              · refine Below.drew ?_
                iterate 22 (refine Below.setCell ?_ (by first | (simp; done) | (simp; omega)) _)
                exact BL.out
    by_cases hg1 : g = 1
    · subst hg1
      clear hg0
      go_wp2_with (fail)
      refine wp_region_held_drew (S := fun _ => True) (by kernel_rfl) trivial (fun hHeld => ?_)
      refine takeD 0 26 (v := ?_) rfl rfl (by kernel_rfl) (by kernel_rfl) (by kernel_rfl) (fun _ _ _ h => h) (Or.inl ⟨by rfl, ?_⟩) (by assumption) ?_
      rotate_left
      · intro w1 hSw; go_simp; (try with_reducible rfl)
      (try simp only [Act.put, List.setIfInBounds_toArray, List.set_cons_zero, List.set_cons_succ])
      refine takeD 2 28 (v := ?_) rfl rfl (by kernel_rfl) (by kernel_rfl) (by kernel_rfl) (fun _ _ _ h => h) (Or.inl ⟨by rfl, ?_⟩) (by assumption) ?_
      rotate_left
      · intro w1 hSw; go_simp; (try with_reducible rfl)
      (try simp only [Act.put, List.setIfInBounds_toArray, List.set_cons_zero, List.set_cons_succ])
      refine wpAnyH_ready (rs := [1, 3]) (by kernel_rfl) (by simp) ?_
      refine AllReadyH.cons rfl (fun K hK => ?_) (AllReadyH.cons rfl (fun K hK => ?_) AllReadyH.nil)
      · have x9 := (KQ.out.cell 9).trans (show _ = some (.slice q.A q.cl.length q.a) from rfl)
        go_simp
        refine hK.out _ _ trivial (fun _ => ?_)
        clear x9
        clear hK K
        (try simp only [Act.put, List.setIfInBounds_toArray, List.set_cons_zero, List.set_cons_succ])
        refine wpAnyH_ready (rs := [3]) (by kernel_rfl) (by simp) ?_
        refine AllReadyH.cons rfl (fun K hK => ?_) AllReadyH.nil
        · go_simp
          refine (l20Claim (RD.out.below (Below.refl _ _).drew) (by omega)).mono ?_
          rintro e Wf ⟨y, rfl, qf, qf0, qf1, hr, hgr⟩
          have hszf := hgr.size
          have RD := Lib.hid hr
          have hgr' := grownBy_trans (Below.grownBy (w := We) (Below.refl _ _).drew (some (w.heap.size + 1 + 1))) hgr
          have KA := Lib.hid (KA.out.grown hgr' (by simp; omega))
          have KB := Lib.hid (KB.out.grown hgr' (by simp))
          have KM := Lib.hid (KM.out.grown hgr' (by simp; omega))
          have KQ := Lib.hid (KQ.out.grown hgr' (by simp; omega))
          have MG := Lib.hid (MG.out.far hgr' (fun k hk => by cases hk; omega))
          have MQ := Lib.hid (MQ.out.far hgr' (fun k hk => by cases hk; omega))
          have BL := Lib.hid (BL.out.grown hgr' BL.out.size (by intro k hk; cases hk; omega))
          clear hr hgr hgr'
          refine hK.out _ _ trivial (fun _ => ?_)
          clear hK K
          (try simp only [Act.put, List.setIfInBounds_toArray, List.set_cons_zero, List.set_cons_succ])
          refine wpAnyH_ready (rs := [4]) (by kernel_rfl) (by simp) ?_
          refine AllReadyH.cons rfl (fun K hK => ?_) AllReadyH.nil
          · go_simp
            have KA := Lib.hid (KA.out.alloc (.cells #[.int .i64 y.s, .int .i64 y.v, .int .i64 y.r.c, .int .i64 y.r.n, .int .i64 y.r.o, .int .i64 y.r.x, .int .i64 y.r.y] 60))
            have KB := Lib.hid (KB.out.alloc (.cells #[.int .i64 y.s, .int .i64 y.v, .int .i64 y.r.c, .int .i64 y.r.n, .int .i64 y.r.o, .int .i64 y.r.x, .int .i64 y.r.y] 60))
            have KM := Lib.hid (KM.out.alloc (.cells #[.int .i64 y.s, .int .i64 y.v, .int .i64 y.r.c, .int .i64 y.r.n, .int .i64 y.r.o, .int .i64 y.r.x, .int .i64 y.r.y] 60))
            have KQ := Lib.hid (KQ.out.alloc (.cells #[.int .i64 y.s, .int .i64 y.v, .int .i64 y.r.c, .int .i64 y.r.n, .int .i64 y.r.o, .int .i64 y.r.x, .int .i64 y.r.y] 60))
            have MG := Lib.hid (MG.out.below ((Below.refl _ _).alloc (Nat.le_refl _) (.cells #[.int .i64 y.s, .int .i64 y.v, .int .i64 y.r.c, .int .i64 y.r.n, .int .i64 y.r.o, .int .i64 y.r.x, .int .i64 y.r.y] 60)))
            have MQ := Lib.hid (MQ.out.below ((Below.refl _ _).alloc (Nat.le_refl _) (.cells #[.int .i64 y.s, .int .i64 y.v, .int .i64 y.r.c, .int .i64 y.r.n, .int .i64 y.r.o, .int .i64 y.r.x, .int .i64 y.r.y] 60)))
            have BL := Lib.hid (BL.out.alloc BL.out.size (.cells #[.int .i64 y.s, .int .i64 y.v, .int .i64 y.r.c, .int .i64 y.r.n, .int .i64 y.r.o, .int .i64 y.r.x, .int .i64 y.r.y] 60))
            refine hK.out _ _ trivial (fun _ => ?_)
            clear hK K
            (try simp only [Act.put, List.setIfInBounds_toArray, List.set_cons_zero, List.set_cons_succ])
            have hbase : Wc.heap.size ≤ (Wf.alloc (.cells #[.int .i64 y.s, .int .i64 y.v, .int .i64 y.r.c, .int .i64 y.r.n, .int .i64 y.r.o, .int .i64 y.r.x, .int .i64 y.r.y] 60)).heap.size := by simp only [alloc_heap_size]; have := KQ.out.lt; simp only [alloc_heap_size] at this; omega
            refine wpAnyH_ready (rs := [5]) (by kernel_rfl) (by simp) ?_
            refine AllReadyH.cons rfl (fun K hK => ?_) AllReadyH.nil
            refine step_append_own (by rfl) _ _ 25 (by rfl) Wc.heap.size 60 i0 (.agg #[.int .i64 0, .int .i64 0, .int .i64 0, .int .i64 0, .int .i64 0, .int .i64 0, .int .i64 0]) 7 56 Try.underlying25 I1.out I2.out I3.out I4.out (by rfl) (by omega) (.slice q.A q.cl.length q.a) q.cl.length (q.cl.flatMap Cl.cells) (by rfl) MQ.out.oc ⟨Wf.heap.size, 0, none⟩ 1 1 y.cells (by rfl) (by rfl) (row_cells Wf 60 #[.int .i64 y.s, .int .i64 y.v, .int .i64 y.r.c, .int .i64 y.r.n, .int .i64 y.r.o, .int .i64 y.r.x, .int .i64 y.r.y] y.cells rfl) (claim_one y) (by unfold maxLen; omega) (by omega) hbase ?_
            intro v' Wg ho hg _
            obtain ⟨B', a', hv', hm'⟩ := own_form ho
            subst hv'
            have MQc := MQ
            have hrow : ∀ k, (Value.slice q.A q.cl.length q.a).ownBlock = some k → Wc.heap.size ≤ k := fun k hk => (own_block_ge MQc.out.oc k hk).1
            have KA := Lib.hid (KA.out.grown hg (fun e => own_ne MQc.out.oc KA.out (by decide) e.symm))
            have KB := Lib.hid (KB.out.grown hg (fun e => own_ne MQc.out.oc KB.out (by decide) e.symm))
            have KM := Lib.hid (KM.out.grown hg (fun e => own_ne MQc.out.oc KM.out (by decide) e.symm))
            have KQ := Lib.hid (KQ.out.grown hg (fun e => own_ne MQc.out.oc KQ.out (by decide) e.symm))
            have MG := Lib.hid (MG0.out.old hg (fun k hk => by have := hrow k hk; omega) MG.out)
            have BL := Lib.hid (BL.out.grown hg BL.out.size (fun k hk => by have := hrow k hk; omega))
            have MN : Hid (MgD5 Wg Wc.heap.size ⟨q.k, q.f, q.v, q.s, q.r, B', a', q.cl ++ [y], q.B, q.b, q.vt⟩) := by
              have hne : ∀ x, (Value.slice q.B q.vt.length q.b).ownBlock = some x → (Value.slice q.A q.cl.length q.a).ownBlock ≠ some x := own_row_ne MQc.out.ov MQc.out.oc (by decide)
              refine ⟨by simp; omega, MQc.out.nv, by rw [List.flatMap_append, List.length_append]; simpa using ho, MQc.out.ov.kept hg ?_, fun v hv => World.ownsRow.kept (MQc.out.oo v hv) hg ?_⟩
              · rcases hq : (Value.slice q.B q.vt.length q.b).ownBlock with _ | x
                · exact .inl rfl
                · exact .inr fun e => hne x hq e.symm
              · rcases hq : (Value.slice v.A v.cl.length v.c).ownBlock with _ | x
                · exact .inl rfl
                · exact .inr fun e => SQ.out v hv x e.symm hq
            clear ho hg MQ MQc hrow
            refine hK.out _ _ trivial (fun _ => ?_)
            clear hK K
            (try simp only [Act.put, List.setIfInBounds_toArray, List.set_cons_zero, List.set_cons_succ])
            refine takeD 6 32 (v := ?_) rfl rfl (by kernel_rfl) (by kernel_rfl) (by kernel_rfl) (fun _ _ _ h => h) (Or.inl ⟨by rfl, ?_⟩) (by assumption) ?_
            rotate_left
            · intro w1 hSw; go_simp; (try with_reducible rfl)
            (try simp only [Act.put, List.setIfInBounds_toArray, List.set_cons_zero, List.set_cons_succ])
            have x0 : Wg.cell? ⟨Wd.heap.size, 0, none⟩ = some (.int .i64 q.k) := KQ.out.cell 0
            have x1 : Wg.cell? ⟨Wd.heap.size, 1, none⟩ = some (.int .i64 q.f) := KQ.out.cell 1
            have x2 : Wg.cell? ⟨Wd.heap.size, 2, none⟩ = some (.int .i64 q.v) := KQ.out.cell 2
            have x3 : Wg.cell? ⟨Wd.heap.size, 3, none⟩ = some (.int .i64 q.s) := KQ.out.cell 3
            have x4 : Wg.cell? ⟨Wd.heap.size, 4, none⟩ = some (.int .i64 q.r.c) := KQ.out.cell 4
            have x5 : Wg.cell? ⟨Wd.heap.size, 5, none⟩ = some (.int .i64 q.r.n) := KQ.out.cell 5
            have x6 : Wg.cell? ⟨Wd.heap.size, 6, none⟩ = some (.int .i64 q.r.o) := KQ.out.cell 6
            have x7 : Wg.cell? ⟨Wd.heap.size, 7, none⟩ = some (.int .i64 q.r.x) := KQ.out.cell 7
            have x8 : Wg.cell? ⟨Wd.heap.size, 8, none⟩ = some (.int .i64 q.r.y) := KQ.out.cell 8
            have x9 : Wg.cell? ⟨Wd.heap.size, 9, none⟩ = some (.slice q.A q.cl.length q.a) := KQ.out.cell 9
            have x10 : Wg.cell? ⟨Wd.heap.size, 10, none⟩ = some (.slice q.B q.vt.length q.b) := KQ.out.cell 10
            have xf := KQ.out.frozen
            have lq := KQ.out.lt
            refine wpAnyH_ready (rs := [7]) (by kernel_rfl) (by simp) ?_
            refine AllReadyH.cons rfl (fun K hK => ?_) AllReadyH.nil
            go_simp
            have KA := Lib.hid (KA.out.far (show w.heap.size ≠ Wd.heap.size by omega) 9 (.slice B' (q.cl.length + 1) a'))
            have KB := Lib.hid (KB.out.far (show w.heap.size + 1 ≠ Wd.heap.size by omega) 9 (.slice B' (q.cl.length + 1) a'))
            have KM := Lib.hid (KM.out.far (show Wb.heap.size ≠ Wd.heap.size by omega) 9 (.slice B' (q.cl.length + 1) a'))
            have MG := Lib.hid (MG.out.setB KQ.out 9 (.slice B' (q.cl.length + 1) a'))
            have MQ := Lib.hid (MN.out.setB KQ.out 9 (.slice B' (q.cl.length + 1) a'))
            have KQ : Hid (Blk (Wg.setCell ⟨Wd.heap.size, 9, none⟩ (.slice B' (q.cl.length + 1) a')) Wd.heap.size 28 #[.int .i64 q.k, .int .i64 q.f, .int .i64 q.v, .int .i64 q.s, .int .i64 q.r.c, .int .i64 q.r.n, .int .i64 q.r.o, .int .i64 q.r.x, .int .i64 q.r.y, .slice B' (q.cl.length + 1) a', .slice q.B q.vt.length q.b]) := by have := KQ.out.set 9 (.slice B' (q.cl.length + 1) a'); simpa [Hid] using this
            have BL := Lib.hid (BL.out.setCell (by simp; omega) (.slice B' (q.cl.length + 1) a') (p := ⟨Wd.heap.size, 9, none⟩))
            refine hK.out _ _ trivial (fun _ => ?_)
            clear hK K
            (try simp only [Act.put, List.setIfInBounds_toArray, List.set_cons_zero, List.set_cons_succ])
            refine wpAnyH_done (by kernel_rfl) ?_ _
            clear xf lq x0 x1 x2 x3 x4 x5 x6 x7 x8 x9 x10 RD MG0 SQ MN
            generalize Wg.setCell ⟨Wd.heap.size, 9, none⟩ (.slice B' (q.cl.length + 1) a') = Wh at *
            go_wp2_with (fail)
            have hwd : Wb.heap.size < Wd.heap.size := by omega
            have nq0 : ¬ w.heap.size = Wd.heap.size := by omega
            have nq1 : ¬ Wd.heap.size = w.heap.size := by omega
            have a0 : Wh.cell? ⟨w.heap.size, 0, none⟩ = some (.int .i64 0) := KA.out.cell 0
            have a1 : Wh.cell? ⟨w.heap.size, 1, none⟩ = some (.int .i64 0) := KA.out.cell 1
            have a2 : Wh.cell? ⟨w.heap.size, 2, none⟩ = some (.int .i64 0) := KA.out.cell 2
            have a3 : Wh.cell? ⟨w.heap.size, 3, none⟩ = some (.int .i64 0) := KA.out.cell 3
            have a4 : Wh.cell? ⟨w.heap.size, 4, none⟩ = some (.int .i64 0) := KA.out.cell 4
            have a5 : Wh.cell? ⟨w.heap.size, 5, none⟩ = some (.int .i64 0) := KA.out.cell 5
            have a6 : Wh.cell? ⟨w.heap.size, 6, none⟩ = some (.int .i64 0) := KA.out.cell 6
            have a7 : Wh.cell? ⟨w.heap.size, 7, none⟩ = some (.int .i64 0) := KA.out.cell 7
            have a8 : Wh.cell? ⟨w.heap.size, 8, none⟩ = some (.int .i64 0) := KA.out.cell 8
            have a9 : Wh.cell? ⟨w.heap.size, 9, none⟩ = some (.slice none 0 0) := KA.out.cell 9
            have a10 : Wh.cell? ⟨w.heap.size, 10, none⟩ = some (.slice none 0 0) := KA.out.cell 10
            have b0 : Wh.cell? ⟨w.heap.size + 1, 0, none⟩ = some (.int .i64 0) := KB.out.cell 0
            have b1 : Wh.cell? ⟨w.heap.size + 1, 1, none⟩ = some (.int .i64 0) := KB.out.cell 1
            have b2 : Wh.cell? ⟨w.heap.size + 1, 2, none⟩ = some (.int .i64 0) := KB.out.cell 2
            have b3 : Wh.cell? ⟨w.heap.size + 1, 3, none⟩ = some (.int .i64 0) := KB.out.cell 3
            have b4 : Wh.cell? ⟨w.heap.size + 1, 4, none⟩ = some (.int .i64 0) := KB.out.cell 4
            have b5 : Wh.cell? ⟨w.heap.size + 1, 5, none⟩ = some (.int .i64 0) := KB.out.cell 5
            have b6 : Wh.cell? ⟨w.heap.size + 1, 6, none⟩ = some (.int .i64 0) := KB.out.cell 6
            have b7 : Wh.cell? ⟨w.heap.size + 1, 7, none⟩ = some (.int .i64 0) := KB.out.cell 7
            have b8 : Wh.cell? ⟨w.heap.size + 1, 8, none⟩ = some (.int .i64 0) := KB.out.cell 8
            have b9 : Wh.cell? ⟨w.heap.size + 1, 9, none⟩ = some (.slice none 0 0) := KB.out.cell 9
            have b10 : Wh.cell? ⟨w.heap.size + 1, 10, none⟩ = some (.slice none 0 0) := KB.out.cell 10
            have af := KA.out.frozen
            have bf := KB.out.frozen
            have la := KA.out.lt
            have lb := KB.out.lt
            refine wp_region_held_drew (S := fun _ => True) (by kernel_rfl) trivial (fun hS => ?_)
            refine wpAnyH_ready (rs := [0, 1]) (by kernel_rfl) (by simp) ?_
            refine AllReadyH.cons rfl (fun K hK => ?_) (AllReadyH.cons rfl (fun K hK => ?_) AllReadyH.nil)
            · have y0 := (KM.out.cell 0).trans (show _ = some (.int .i64 m.k) from rfl); have y1 := (KM.out.cell 1).trans (show _ = some (.int .i64 m.f) from rfl); have y2 := (KM.out.cell 2).trans (show _ = some (.int .i64 m.v) from rfl); have y3 := (KM.out.cell 3).trans (show _ = some (.int .i64 m.s) from rfl); have y4 := (KM.out.cell 4).trans (show _ = some (.int .i64 m.r.c) from rfl); have y5 := (KM.out.cell 5).trans (show _ = some (.int .i64 m.r.n) from rfl); have y6 := (KM.out.cell 6).trans (show _ = some (.int .i64 m.r.o) from rfl); have y7 := (KM.out.cell 7).trans (show _ = some (.int .i64 m.r.x) from rfl); have y8 := (KM.out.cell 8).trans (show _ = some (.int .i64 m.r.y) from rfl); have y9 := (KM.out.cell 9).trans (show _ = some (.slice m.A m.cl.length m.a) from rfl); have y10 := (KM.out.cell 10).trans (show _ = some (.slice m.B m.vt.length m.b) from rfl)
              go_simp
              refine hK.out _ _ trivial (fun _ => ?_)
              clear y0 y1 y2 y3 y4 y5 y6 y7 y8 y9 y10
              clear hK K
              (try simp only [Act.put, List.setIfInBounds_toArray, List.set_cons_zero, List.set_cons_succ])
              refine wpAnyH_ready (rs := [1, 2]) (by kernel_rfl) (by simp) ?_
              refine AllReadyH.cons rfl (fun K hK => ?_) (AllReadyH.cons rfl (fun K hK => ?_) AllReadyH.nil)
              · have y0 := (KQ.out.cell 0).trans (show _ = some (.int .i64 q.k) from rfl); have y1 := (KQ.out.cell 1).trans (show _ = some (.int .i64 q.f) from rfl); have y2 := (KQ.out.cell 2).trans (show _ = some (.int .i64 q.v) from rfl); have y3 := (KQ.out.cell 3).trans (show _ = some (.int .i64 q.s) from rfl); have y4 := (KQ.out.cell 4).trans (show _ = some (.int .i64 q.r.c) from rfl); have y5 := (KQ.out.cell 5).trans (show _ = some (.int .i64 q.r.n) from rfl); have y6 := (KQ.out.cell 6).trans (show _ = some (.int .i64 q.r.o) from rfl); have y7 := (KQ.out.cell 7).trans (show _ = some (.int .i64 q.r.x) from rfl); have y8 := (KQ.out.cell 8).trans (show _ = some (.int .i64 q.r.y) from rfl); have y9 := (KQ.out.cell 9).trans (show _ = some (.slice B' (q.cl.length + 1) a') from rfl); have y10 := (KQ.out.cell 10).trans (show _ = some (.slice q.B q.vt.length q.b) from rfl)
                go_simp
                refine hK.out _ _ trivial (fun _ => ?_)
                clear y0 y1 y2 y3 y4 y5 y6 y7 y8 y9 y10
                clear hK K
                (try simp only [Act.put, List.setIfInBounds_toArray, List.set_cons_zero, List.set_cons_succ])
                refine wpAnyH_ready (rs := [2]) (by kernel_rfl) (by simp) ?_
                refine AllReadyH.cons rfl (fun K hK => ?_) AllReadyH.nil
                · go_simp
                  refine hK.out _ _ trivial (fun _ => ?_)
                  clear hK K
                  (try simp only [Act.put, List.setIfInBounds_toArray, List.set_cons_zero, List.set_cons_succ])
                  refine wpAnyH_ready (rs := [3]) (by kernel_rfl) (by simp) ?_
                  refine AllReadyH.cons rfl (fun K hK => ?_) AllReadyH.nil
                  · go_simp
                    refine hK.out _ _ trivial (fun _ => ?_)
                    clear hK K
                    (try simp only [Act.put, List.setIfInBounds_toArray, List.set_cons_zero, List.set_cons_succ])
                    refine wpAnyH_done (by kernel_rfl) ?_ _
                    go_wp2
                    go_light
                    refine bodyPost_ret (v := .tuple #[.agg #[.int .i64 m.k, .int .i64 m.f, .int .i64 m.v, .int .i64 m.s, .int .i64 m.r.c, .int .i64 m.r.n, .int .i64 m.r.o, .int .i64 m.r.x, .int .i64 m.r.y, .slice m.A m.cl.length m.a, .slice m.B m.vt.length m.b], .agg #[.int .i64 q.k, .int .i64 q.f, .int .i64 q.v, .int .i64 q.s, .int .i64 q.r.c, .int .i64 q.r.n, .int .i64 q.r.o, .int .i64 q.r.x, .int .i64 q.r.y, .slice B' (q.cl.length + 1) a', .slice q.B q.vt.length q.b]]) (by simp [results, Try.results8, go_sem, a0, a1, a2, a3, a4, a5, a6, a7, a8, a9, a10, b0, b1, b2, b3, b4, b5, b6, b7, b8, b9, b10]) rfl ⟨m, ⟨q.k, q.f, q.v, q.s, q.r, B', a', q.cl ++ [y], q.B, q.b, q.vt⟩, by simp [MgP.val], ?_, ?_, by omega, by omega, by first | omega | (simp; omega), by first | omega | (simp; omega), ?_⟩
                    · refine MgD.rd (lo := Wa.heap.size) ?_
                      refine MgD.dr ?_
                      iterate 22 (refine MgD.set ?_ (by first | omega | (simp; omega)) _ _)
                      exact MG.out
                    · refine MgD5.rd (lo := Wc.heap.size) ?_
                      refine MgD5.dr ?_
                      iterate 22 (refine MgD5.set ?_ (by first | omega | (simp; omega)) _ _)
                      exact MQ.out
                    · refine Below.drew ?_
                      iterate 22 (refine Below.setCell ?_ (by first | (simp; done) | (simp; omega)) _)
                      exact BL.out
              · go_simp
                refine hK.out _ _ trivial (fun _ => ?_)
                clear hK K
                (try simp only [Act.put, List.setIfInBounds_toArray, List.set_cons_zero, List.set_cons_succ])
                refine wpAnyH_ready (rs := [1]) (by kernel_rfl) (by simp) ?_
                refine AllReadyH.cons rfl (fun K hK => ?_) AllReadyH.nil
                · have y0 := (KQ.out.cell 0).trans (show _ = some (.int .i64 q.k) from rfl); have y1 := (KQ.out.cell 1).trans (show _ = some (.int .i64 q.f) from rfl); have y2 := (KQ.out.cell 2).trans (show _ = some (.int .i64 q.v) from rfl); have y3 := (KQ.out.cell 3).trans (show _ = some (.int .i64 q.s) from rfl); have y4 := (KQ.out.cell 4).trans (show _ = some (.int .i64 q.r.c) from rfl); have y5 := (KQ.out.cell 5).trans (show _ = some (.int .i64 q.r.n) from rfl); have y6 := (KQ.out.cell 6).trans (show _ = some (.int .i64 q.r.o) from rfl); have y7 := (KQ.out.cell 7).trans (show _ = some (.int .i64 q.r.x) from rfl); have y8 := (KQ.out.cell 8).trans (show _ = some (.int .i64 q.r.y) from rfl); have y9 := (KQ.out.cell 9).trans (show _ = some (.slice B' (q.cl.length + 1) a') from rfl); have y10 := (KQ.out.cell 10).trans (show _ = some (.slice q.B q.vt.length q.b) from rfl)
                  go_simp
                  refine hK.out _ _ trivial (fun _ => ?_)
                  clear y0 y1 y2 y3 y4 y5 y6 y7 y8 y9 y10
                  clear hK K
                  (try simp only [Act.put, List.setIfInBounds_toArray, List.set_cons_zero, List.set_cons_succ])
                  refine wpAnyH_ready (rs := [3]) (by kernel_rfl) (by simp) ?_
                  refine AllReadyH.cons rfl (fun K hK => ?_) AllReadyH.nil
                  · go_simp
                    refine hK.out _ _ trivial (fun _ => ?_)
                    clear hK K
                    (try simp only [Act.put, List.setIfInBounds_toArray, List.set_cons_zero, List.set_cons_succ])
                    refine wpAnyH_done (by kernel_rfl) ?_ _
                    go_wp2
                    go_light
                    refine bodyPost_ret (v := .tuple #[.agg #[.int .i64 m.k, .int .i64 m.f, .int .i64 m.v, .int .i64 m.s, .int .i64 m.r.c, .int .i64 m.r.n, .int .i64 m.r.o, .int .i64 m.r.x, .int .i64 m.r.y, .slice m.A m.cl.length m.a, .slice m.B m.vt.length m.b], .agg #[.int .i64 q.k, .int .i64 q.f, .int .i64 q.v, .int .i64 q.s, .int .i64 q.r.c, .int .i64 q.r.n, .int .i64 q.r.o, .int .i64 q.r.x, .int .i64 q.r.y, .slice B' (q.cl.length + 1) a', .slice q.B q.vt.length q.b]]) (by simp [results, Try.results8, go_sem, a0, a1, a2, a3, a4, a5, a6, a7, a8, a9, a10, b0, b1, b2, b3, b4, b5, b6, b7, b8, b9, b10]) rfl ⟨m, ⟨q.k, q.f, q.v, q.s, q.r, B', a', q.cl ++ [y], q.B, q.b, q.vt⟩, by simp [MgP.val], ?_, ?_, by omega, by omega, by first | omega | (simp; omega), by first | omega | (simp; omega), ?_⟩
                    · refine MgD.rd (lo := Wa.heap.size) ?_
                      refine MgD.dr ?_
                      iterate 22 (refine MgD.set ?_ (by first | omega | (simp; omega)) _ _)
                      exact MG.out
                    · refine MgD5.rd (lo := Wc.heap.size) ?_
                      refine MgD5.dr ?_
                      iterate 22 (refine MgD5.set ?_ (by first | omega | (simp; omega)) _ _)
                      exact MQ.out
                    · refine Below.drew ?_
                      iterate 22 (refine Below.setCell ?_ (by first | (simp; done) | (simp; omega)) _)
                      exact BL.out
            · have y0 := (KQ.out.cell 0).trans (show _ = some (.int .i64 q.k) from rfl); have y1 := (KQ.out.cell 1).trans (show _ = some (.int .i64 q.f) from rfl); have y2 := (KQ.out.cell 2).trans (show _ = some (.int .i64 q.v) from rfl); have y3 := (KQ.out.cell 3).trans (show _ = some (.int .i64 q.s) from rfl); have y4 := (KQ.out.cell 4).trans (show _ = some (.int .i64 q.r.c) from rfl); have y5 := (KQ.out.cell 5).trans (show _ = some (.int .i64 q.r.n) from rfl); have y6 := (KQ.out.cell 6).trans (show _ = some (.int .i64 q.r.o) from rfl); have y7 := (KQ.out.cell 7).trans (show _ = some (.int .i64 q.r.x) from rfl); have y8 := (KQ.out.cell 8).trans (show _ = some (.int .i64 q.r.y) from rfl); have y9 := (KQ.out.cell 9).trans (show _ = some (.slice B' (q.cl.length + 1) a') from rfl); have y10 := (KQ.out.cell 10).trans (show _ = some (.slice q.B q.vt.length q.b) from rfl)
              go_simp
              refine hK.out _ _ trivial (fun _ => ?_)
              clear y0 y1 y2 y3 y4 y5 y6 y7 y8 y9 y10
              clear hK K
              (try simp only [Act.put, List.setIfInBounds_toArray, List.set_cons_zero, List.set_cons_succ])
              refine wpAnyH_ready (rs := [0]) (by kernel_rfl) (by simp) ?_
              refine AllReadyH.cons rfl (fun K hK => ?_) AllReadyH.nil
              · have y0 := (KM.out.cell 0).trans (show _ = some (.int .i64 m.k) from rfl); have y1 := (KM.out.cell 1).trans (show _ = some (.int .i64 m.f) from rfl); have y2 := (KM.out.cell 2).trans (show _ = some (.int .i64 m.v) from rfl); have y3 := (KM.out.cell 3).trans (show _ = some (.int .i64 m.s) from rfl); have y4 := (KM.out.cell 4).trans (show _ = some (.int .i64 m.r.c) from rfl); have y5 := (KM.out.cell 5).trans (show _ = some (.int .i64 m.r.n) from rfl); have y6 := (KM.out.cell 6).trans (show _ = some (.int .i64 m.r.o) from rfl); have y7 := (KM.out.cell 7).trans (show _ = some (.int .i64 m.r.x) from rfl); have y8 := (KM.out.cell 8).trans (show _ = some (.int .i64 m.r.y) from rfl); have y9 := (KM.out.cell 9).trans (show _ = some (.slice m.A m.cl.length m.a) from rfl); have y10 := (KM.out.cell 10).trans (show _ = some (.slice m.B m.vt.length m.b) from rfl)
                go_simp
                refine hK.out _ _ trivial (fun _ => ?_)
                clear y0 y1 y2 y3 y4 y5 y6 y7 y8 y9 y10
                clear hK K
                (try simp only [Act.put, List.setIfInBounds_toArray, List.set_cons_zero, List.set_cons_succ])
                refine wpAnyH_ready (rs := [2]) (by kernel_rfl) (by simp) ?_
                refine AllReadyH.cons rfl (fun K hK => ?_) AllReadyH.nil
                · go_simp
                  refine hK.out _ _ trivial (fun _ => ?_)
                  clear hK K
                  (try simp only [Act.put, List.setIfInBounds_toArray, List.set_cons_zero, List.set_cons_succ])
                  refine wpAnyH_ready (rs := [3]) (by kernel_rfl) (by simp) ?_
                  refine AllReadyH.cons rfl (fun K hK => ?_) AllReadyH.nil
                  · go_simp
                    refine hK.out _ _ trivial (fun _ => ?_)
                    clear hK K
                    (try simp only [Act.put, List.setIfInBounds_toArray, List.set_cons_zero, List.set_cons_succ])
                    refine wpAnyH_done (by kernel_rfl) ?_ _
                    go_wp2
                    go_light
                    refine bodyPost_ret (v := .tuple #[.agg #[.int .i64 m.k, .int .i64 m.f, .int .i64 m.v, .int .i64 m.s, .int .i64 m.r.c, .int .i64 m.r.n, .int .i64 m.r.o, .int .i64 m.r.x, .int .i64 m.r.y, .slice m.A m.cl.length m.a, .slice m.B m.vt.length m.b], .agg #[.int .i64 q.k, .int .i64 q.f, .int .i64 q.v, .int .i64 q.s, .int .i64 q.r.c, .int .i64 q.r.n, .int .i64 q.r.o, .int .i64 q.r.x, .int .i64 q.r.y, .slice B' (q.cl.length + 1) a', .slice q.B q.vt.length q.b]]) (by simp [results, Try.results8, go_sem, a0, a1, a2, a3, a4, a5, a6, a7, a8, a9, a10, b0, b1, b2, b3, b4, b5, b6, b7, b8, b9, b10]) rfl ⟨m, ⟨q.k, q.f, q.v, q.s, q.r, B', a', q.cl ++ [y], q.B, q.b, q.vt⟩, by simp [MgP.val], ?_, ?_, by omega, by omega, by first | omega | (simp; omega), by first | omega | (simp; omega), ?_⟩
                    · refine MgD.rd (lo := Wa.heap.size) ?_
                      refine MgD.dr ?_
                      iterate 22 (refine MgD.set ?_ (by first | omega | (simp; omega)) _ _)
                      exact MG.out
                    · refine MgD5.rd (lo := Wc.heap.size) ?_
                      refine MgD5.dr ?_
                      iterate 22 (refine MgD5.set ?_ (by first | omega | (simp; omega)) _ _)
                      exact MQ.out
                    · refine Below.drew ?_
                      iterate 22 (refine Below.setCell ?_ (by first | (simp; done) | (simp; omega)) _)
                      exact BL.out
      · go_simp
        refine (l20Claim (RD.out.below (Below.refl _ _).drew) (by omega)).mono ?_
        rintro e Wf ⟨y, rfl, qf, qf0, qf1, hr, hgr⟩
        have hszf := hgr.size
        have RD := Lib.hid hr
        have hgr' := grownBy_trans (Below.grownBy (w := We) (Below.refl _ _).drew (some (w.heap.size + 1 + 1))) hgr
        have KA := Lib.hid (KA.out.grown hgr' (by simp; omega))
        have KB := Lib.hid (KB.out.grown hgr' (by simp))
        have KM := Lib.hid (KM.out.grown hgr' (by simp; omega))
        have KQ := Lib.hid (KQ.out.grown hgr' (by simp; omega))
        have MG := Lib.hid (MG.out.far hgr' (fun k hk => by cases hk; omega))
        have MQ := Lib.hid (MQ.out.far hgr' (fun k hk => by cases hk; omega))
        have BL := Lib.hid (BL.out.grown hgr' BL.out.size (by intro k hk; cases hk; omega))
        clear hr hgr hgr'
        refine hK.out _ _ trivial (fun _ => ?_)
        clear hK K
        (try simp only [Act.put, List.setIfInBounds_toArray, List.set_cons_zero, List.set_cons_succ])
        refine wpAnyH_ready (rs := [1, 4]) (by kernel_rfl) (by simp) ?_
        refine AllReadyH.cons rfl (fun K hK => ?_) (AllReadyH.cons rfl (fun K hK => ?_) AllReadyH.nil)
        · have x9 := (KQ.out.cell 9).trans (show _ = some (.slice q.A q.cl.length q.a) from rfl)
          go_simp
          refine hK.out _ _ trivial (fun _ => ?_)
          clear x9
          clear hK K
          (try simp only [Act.put, List.setIfInBounds_toArray, List.set_cons_zero, List.set_cons_succ])
          refine wpAnyH_ready (rs := [4]) (by kernel_rfl) (by simp) ?_
          refine AllReadyH.cons rfl (fun K hK => ?_) AllReadyH.nil
          · go_simp
            have KA := Lib.hid (KA.out.alloc (.cells #[.int .i64 y.s, .int .i64 y.v, .int .i64 y.r.c, .int .i64 y.r.n, .int .i64 y.r.o, .int .i64 y.r.x, .int .i64 y.r.y] 60))
            have KB := Lib.hid (KB.out.alloc (.cells #[.int .i64 y.s, .int .i64 y.v, .int .i64 y.r.c, .int .i64 y.r.n, .int .i64 y.r.o, .int .i64 y.r.x, .int .i64 y.r.y] 60))
            have KM := Lib.hid (KM.out.alloc (.cells #[.int .i64 y.s, .int .i64 y.v, .int .i64 y.r.c, .int .i64 y.r.n, .int .i64 y.r.o, .int .i64 y.r.x, .int .i64 y.r.y] 60))
            have KQ := Lib.hid (KQ.out.alloc (.cells #[.int .i64 y.s, .int .i64 y.v, .int .i64 y.r.c, .int .i64 y.r.n, .int .i64 y.r.o, .int .i64 y.r.x, .int .i64 y.r.y] 60))
            have MG := Lib.hid (MG.out.below ((Below.refl _ _).alloc (Nat.le_refl _) (.cells #[.int .i64 y.s, .int .i64 y.v, .int .i64 y.r.c, .int .i64 y.r.n, .int .i64 y.r.o, .int .i64 y.r.x, .int .i64 y.r.y] 60)))
            have MQ := Lib.hid (MQ.out.below ((Below.refl _ _).alloc (Nat.le_refl _) (.cells #[.int .i64 y.s, .int .i64 y.v, .int .i64 y.r.c, .int .i64 y.r.n, .int .i64 y.r.o, .int .i64 y.r.x, .int .i64 y.r.y] 60)))
            have BL := Lib.hid (BL.out.alloc BL.out.size (.cells #[.int .i64 y.s, .int .i64 y.v, .int .i64 y.r.c, .int .i64 y.r.n, .int .i64 y.r.o, .int .i64 y.r.x, .int .i64 y.r.y] 60))
            refine hK.out _ _ trivial (fun _ => ?_)
            clear hK K
            (try simp only [Act.put, List.setIfInBounds_toArray, List.set_cons_zero, List.set_cons_succ])
            have hbase : Wc.heap.size ≤ (Wf.alloc (.cells #[.int .i64 y.s, .int .i64 y.v, .int .i64 y.r.c, .int .i64 y.r.n, .int .i64 y.r.o, .int .i64 y.r.x, .int .i64 y.r.y] 60)).heap.size := by simp only [alloc_heap_size]; have := KQ.out.lt; simp only [alloc_heap_size] at this; omega
            refine wpAnyH_ready (rs := [5]) (by kernel_rfl) (by simp) ?_
            refine AllReadyH.cons rfl (fun K hK => ?_) AllReadyH.nil
            refine step_append_own (by rfl) _ _ 25 (by rfl) Wc.heap.size 60 i0 (.agg #[.int .i64 0, .int .i64 0, .int .i64 0, .int .i64 0, .int .i64 0, .int .i64 0, .int .i64 0]) 7 56 Try.underlying25 I1.out I2.out I3.out I4.out (by rfl) (by omega) (.slice q.A q.cl.length q.a) q.cl.length (q.cl.flatMap Cl.cells) (by rfl) MQ.out.oc ⟨Wf.heap.size, 0, none⟩ 1 1 y.cells (by rfl) (by rfl) (row_cells Wf 60 #[.int .i64 y.s, .int .i64 y.v, .int .i64 y.r.c, .int .i64 y.r.n, .int .i64 y.r.o, .int .i64 y.r.x, .int .i64 y.r.y] y.cells rfl) (claim_one y) (by unfold maxLen; omega) (by omega) hbase ?_
            intro v' Wg ho hg _
            obtain ⟨B', a', hv', hm'⟩ := own_form ho
            subst hv'
            have MQc := MQ
            have hrow : ∀ k, (Value.slice q.A q.cl.length q.a).ownBlock = some k → Wc.heap.size ≤ k := fun k hk => (own_block_ge MQc.out.oc k hk).1
            have KA := Lib.hid (KA.out.grown hg (fun e => own_ne MQc.out.oc KA.out (by decide) e.symm))
            have KB := Lib.hid (KB.out.grown hg (fun e => own_ne MQc.out.oc KB.out (by decide) e.symm))
            have KM := Lib.hid (KM.out.grown hg (fun e => own_ne MQc.out.oc KM.out (by decide) e.symm))
            have KQ := Lib.hid (KQ.out.grown hg (fun e => own_ne MQc.out.oc KQ.out (by decide) e.symm))
            have MG := Lib.hid (MG0.out.old hg (fun k hk => by have := hrow k hk; omega) MG.out)
            have BL := Lib.hid (BL.out.grown hg BL.out.size (fun k hk => by have := hrow k hk; omega))
            have MN : Hid (MgD5 Wg Wc.heap.size ⟨q.k, q.f, q.v, q.s, q.r, B', a', q.cl ++ [y], q.B, q.b, q.vt⟩) := by
              have hne : ∀ x, (Value.slice q.B q.vt.length q.b).ownBlock = some x → (Value.slice q.A q.cl.length q.a).ownBlock ≠ some x := own_row_ne MQc.out.ov MQc.out.oc (by decide)
              refine ⟨by simp; omega, MQc.out.nv, by rw [List.flatMap_append, List.length_append]; simpa using ho, MQc.out.ov.kept hg ?_, fun v hv => World.ownsRow.kept (MQc.out.oo v hv) hg ?_⟩
              · rcases hq : (Value.slice q.B q.vt.length q.b).ownBlock with _ | x
                · exact .inl rfl
                · exact .inr fun e => hne x hq e.symm
              · rcases hq : (Value.slice v.A v.cl.length v.c).ownBlock with _ | x
                · exact .inl rfl
                · exact .inr fun e => SQ.out v hv x e.symm hq
            clear ho hg MQ MQc hrow
            refine hK.out _ _ trivial (fun _ => ?_)
            clear hK K
            (try simp only [Act.put, List.setIfInBounds_toArray, List.set_cons_zero, List.set_cons_succ])
            refine takeD 6 32 (v := ?_) rfl rfl (by kernel_rfl) (by kernel_rfl) (by kernel_rfl) (fun _ _ _ h => h) (Or.inl ⟨by rfl, ?_⟩) (by assumption) ?_
            rotate_left
            · intro w1 hSw; go_simp; (try with_reducible rfl)
            (try simp only [Act.put, List.setIfInBounds_toArray, List.set_cons_zero, List.set_cons_succ])
            have x0 : Wg.cell? ⟨Wd.heap.size, 0, none⟩ = some (.int .i64 q.k) := KQ.out.cell 0
            have x1 : Wg.cell? ⟨Wd.heap.size, 1, none⟩ = some (.int .i64 q.f) := KQ.out.cell 1
            have x2 : Wg.cell? ⟨Wd.heap.size, 2, none⟩ = some (.int .i64 q.v) := KQ.out.cell 2
            have x3 : Wg.cell? ⟨Wd.heap.size, 3, none⟩ = some (.int .i64 q.s) := KQ.out.cell 3
            have x4 : Wg.cell? ⟨Wd.heap.size, 4, none⟩ = some (.int .i64 q.r.c) := KQ.out.cell 4
            have x5 : Wg.cell? ⟨Wd.heap.size, 5, none⟩ = some (.int .i64 q.r.n) := KQ.out.cell 5
            have x6 : Wg.cell? ⟨Wd.heap.size, 6, none⟩ = some (.int .i64 q.r.o) := KQ.out.cell 6
            have x7 : Wg.cell? ⟨Wd.heap.size, 7, none⟩ = some (.int .i64 q.r.x) := KQ.out.cell 7
            have x8 : Wg.cell? ⟨Wd.heap.size, 8, none⟩ = some (.int .i64 q.r.y) := KQ.out.cell 8
            have x9 : Wg.cell? ⟨Wd.heap.size, 9, none⟩ = some (.slice q.A q.cl.length q.a) := KQ.out.cell 9
            have x10 : Wg.cell? ⟨Wd.heap.size, 10, none⟩ = some (.slice q.B q.vt.length q.b) := KQ.out.cell 10
            have xf := KQ.out.frozen
            have lq := KQ.out.lt
            refine wpAnyH_ready (rs := [7]) (by kernel_rfl) (by simp) ?_
            refine AllReadyH.cons rfl (fun K hK => ?_) AllReadyH.nil
            go_simp
            have KA := Lib.hid (KA.out.far (show w.heap.size ≠ Wd.heap.size by omega) 9 (.slice B' (q.cl.length + 1) a'))
            have KB := Lib.hid (KB.out.far (show w.heap.size + 1 ≠ Wd.heap.size by omega) 9 (.slice B' (q.cl.length + 1) a'))
            have KM := Lib.hid (KM.out.far (show Wb.heap.size ≠ Wd.heap.size by omega) 9 (.slice B' (q.cl.length + 1) a'))
            have MG := Lib.hid (MG.out.setB KQ.out 9 (.slice B' (q.cl.length + 1) a'))
            have MQ := Lib.hid (MN.out.setB KQ.out 9 (.slice B' (q.cl.length + 1) a'))
            have KQ : Hid (Blk (Wg.setCell ⟨Wd.heap.size, 9, none⟩ (.slice B' (q.cl.length + 1) a')) Wd.heap.size 28 #[.int .i64 q.k, .int .i64 q.f, .int .i64 q.v, .int .i64 q.s, .int .i64 q.r.c, .int .i64 q.r.n, .int .i64 q.r.o, .int .i64 q.r.x, .int .i64 q.r.y, .slice B' (q.cl.length + 1) a', .slice q.B q.vt.length q.b]) := by have := KQ.out.set 9 (.slice B' (q.cl.length + 1) a'); simpa [Hid] using this
            have BL := Lib.hid (BL.out.setCell (by simp; omega) (.slice B' (q.cl.length + 1) a') (p := ⟨Wd.heap.size, 9, none⟩))
            refine hK.out _ _ trivial (fun _ => ?_)
            clear hK K
            (try simp only [Act.put, List.setIfInBounds_toArray, List.set_cons_zero, List.set_cons_succ])
            refine wpAnyH_done (by kernel_rfl) ?_ _
            clear xf lq x0 x1 x2 x3 x4 x5 x6 x7 x8 x9 x10 RD MG0 SQ MN
            generalize Wg.setCell ⟨Wd.heap.size, 9, none⟩ (.slice B' (q.cl.length + 1) a') = Wh at *
            go_wp2_with (fail)
            have hwd : Wb.heap.size < Wd.heap.size := by omega
            have nq0 : ¬ w.heap.size = Wd.heap.size := by omega
            have nq1 : ¬ Wd.heap.size = w.heap.size := by omega
            have a0 : Wh.cell? ⟨w.heap.size, 0, none⟩ = some (.int .i64 0) := KA.out.cell 0
            have a1 : Wh.cell? ⟨w.heap.size, 1, none⟩ = some (.int .i64 0) := KA.out.cell 1
            have a2 : Wh.cell? ⟨w.heap.size, 2, none⟩ = some (.int .i64 0) := KA.out.cell 2
            have a3 : Wh.cell? ⟨w.heap.size, 3, none⟩ = some (.int .i64 0) := KA.out.cell 3
            have a4 : Wh.cell? ⟨w.heap.size, 4, none⟩ = some (.int .i64 0) := KA.out.cell 4
            have a5 : Wh.cell? ⟨w.heap.size, 5, none⟩ = some (.int .i64 0) := KA.out.cell 5
            have a6 : Wh.cell? ⟨w.heap.size, 6, none⟩ = some (.int .i64 0) := KA.out.cell 6
            have a7 : Wh.cell? ⟨w.heap.size, 7, none⟩ = some (.int .i64 0) := KA.out.cell 7
            have a8 : Wh.cell? ⟨w.heap.size, 8, none⟩ = some (.int .i64 0) := KA.out.cell 8
            have a9 : Wh.cell? ⟨w.heap.size, 9, none⟩ = some (.slice none 0 0) := KA.out.cell 9
            have a10 : Wh.cell? ⟨w.heap.size, 10, none⟩ = some (.slice none 0 0) := KA.out.cell 10
            have b0 : Wh.cell? ⟨w.heap.size + 1, 0, none⟩ = some (.int .i64 0) := KB.out.cell 0
            have b1 : Wh.cell? ⟨w.heap.size + 1, 1, none⟩ = some (.int .i64 0) := KB.out.cell 1
            have b2 : Wh.cell? ⟨w.heap.size + 1, 2, none⟩ = some (.int .i64 0) := KB.out.cell 2
            have b3 : Wh.cell? ⟨w.heap.size + 1, 3, none⟩ = some (.int .i64 0) := KB.out.cell 3
            have b4 : Wh.cell? ⟨w.heap.size + 1, 4, none⟩ = some (.int .i64 0) := KB.out.cell 4
            have b5 : Wh.cell? ⟨w.heap.size + 1, 5, none⟩ = some (.int .i64 0) := KB.out.cell 5
            have b6 : Wh.cell? ⟨w.heap.size + 1, 6, none⟩ = some (.int .i64 0) := KB.out.cell 6
            have b7 : Wh.cell? ⟨w.heap.size + 1, 7, none⟩ = some (.int .i64 0) := KB.out.cell 7
            have b8 : Wh.cell? ⟨w.heap.size + 1, 8, none⟩ = some (.int .i64 0) := KB.out.cell 8
            have b9 : Wh.cell? ⟨w.heap.size + 1, 9, none⟩ = some (.slice none 0 0) := KB.out.cell 9
            have b10 : Wh.cell? ⟨w.heap.size + 1, 10, none⟩ = some (.slice none 0 0) := KB.out.cell 10
            have af := KA.out.frozen
            have bf := KB.out.frozen
            have la := KA.out.lt
            have lb := KB.out.lt
            refine wp_region_held_drew (S := fun _ => True) (by kernel_rfl) trivial (fun hS => ?_)
            refine wpAnyH_ready (rs := [0, 1]) (by kernel_rfl) (by simp) ?_
            refine AllReadyH.cons rfl (fun K hK => ?_) (AllReadyH.cons rfl (fun K hK => ?_) AllReadyH.nil)
            · have y0 := (KM.out.cell 0).trans (show _ = some (.int .i64 m.k) from rfl); have y1 := (KM.out.cell 1).trans (show _ = some (.int .i64 m.f) from rfl); have y2 := (KM.out.cell 2).trans (show _ = some (.int .i64 m.v) from rfl); have y3 := (KM.out.cell 3).trans (show _ = some (.int .i64 m.s) from rfl); have y4 := (KM.out.cell 4).trans (show _ = some (.int .i64 m.r.c) from rfl); have y5 := (KM.out.cell 5).trans (show _ = some (.int .i64 m.r.n) from rfl); have y6 := (KM.out.cell 6).trans (show _ = some (.int .i64 m.r.o) from rfl); have y7 := (KM.out.cell 7).trans (show _ = some (.int .i64 m.r.x) from rfl); have y8 := (KM.out.cell 8).trans (show _ = some (.int .i64 m.r.y) from rfl); have y9 := (KM.out.cell 9).trans (show _ = some (.slice m.A m.cl.length m.a) from rfl); have y10 := (KM.out.cell 10).trans (show _ = some (.slice m.B m.vt.length m.b) from rfl)
              go_simp
              refine hK.out _ _ trivial (fun _ => ?_)
              clear y0 y1 y2 y3 y4 y5 y6 y7 y8 y9 y10
              clear hK K
              (try simp only [Act.put, List.setIfInBounds_toArray, List.set_cons_zero, List.set_cons_succ])
              refine wpAnyH_ready (rs := [1, 2]) (by kernel_rfl) (by simp) ?_
              refine AllReadyH.cons rfl (fun K hK => ?_) (AllReadyH.cons rfl (fun K hK => ?_) AllReadyH.nil)
              · have y0 := (KQ.out.cell 0).trans (show _ = some (.int .i64 q.k) from rfl); have y1 := (KQ.out.cell 1).trans (show _ = some (.int .i64 q.f) from rfl); have y2 := (KQ.out.cell 2).trans (show _ = some (.int .i64 q.v) from rfl); have y3 := (KQ.out.cell 3).trans (show _ = some (.int .i64 q.s) from rfl); have y4 := (KQ.out.cell 4).trans (show _ = some (.int .i64 q.r.c) from rfl); have y5 := (KQ.out.cell 5).trans (show _ = some (.int .i64 q.r.n) from rfl); have y6 := (KQ.out.cell 6).trans (show _ = some (.int .i64 q.r.o) from rfl); have y7 := (KQ.out.cell 7).trans (show _ = some (.int .i64 q.r.x) from rfl); have y8 := (KQ.out.cell 8).trans (show _ = some (.int .i64 q.r.y) from rfl); have y9 := (KQ.out.cell 9).trans (show _ = some (.slice B' (q.cl.length + 1) a') from rfl); have y10 := (KQ.out.cell 10).trans (show _ = some (.slice q.B q.vt.length q.b) from rfl)
                go_simp
                refine hK.out _ _ trivial (fun _ => ?_)
                clear y0 y1 y2 y3 y4 y5 y6 y7 y8 y9 y10
                clear hK K
                (try simp only [Act.put, List.setIfInBounds_toArray, List.set_cons_zero, List.set_cons_succ])
                refine wpAnyH_ready (rs := [2]) (by kernel_rfl) (by simp) ?_
                refine AllReadyH.cons rfl (fun K hK => ?_) AllReadyH.nil
                · go_simp
                  refine hK.out _ _ trivial (fun _ => ?_)
                  clear hK K
                  (try simp only [Act.put, List.setIfInBounds_toArray, List.set_cons_zero, List.set_cons_succ])
                  refine wpAnyH_ready (rs := [3]) (by kernel_rfl) (by simp) ?_
                  refine AllReadyH.cons rfl (fun K hK => ?_) AllReadyH.nil
                  · go_simp
                    refine hK.out _ _ trivial (fun _ => ?_)
                    clear hK K
                    (try simp only [Act.put, List.setIfInBounds_toArray, List.set_cons_zero, List.set_cons_succ])
                    refine wpAnyH_done (by kernel_rfl) ?_ _
                    go_wp2
                    go_light
                    refine bodyPost_ret (v := .tuple #[.agg #[.int .i64 m.k, .int .i64 m.f, .int .i64 m.v, .int .i64 m.s, .int .i64 m.r.c, .int .i64 m.r.n, .int .i64 m.r.o, .int .i64 m.r.x, .int .i64 m.r.y, .slice m.A m.cl.length m.a, .slice m.B m.vt.length m.b], .agg #[.int .i64 q.k, .int .i64 q.f, .int .i64 q.v, .int .i64 q.s, .int .i64 q.r.c, .int .i64 q.r.n, .int .i64 q.r.o, .int .i64 q.r.x, .int .i64 q.r.y, .slice B' (q.cl.length + 1) a', .slice q.B q.vt.length q.b]]) (by simp [results, Try.results8, go_sem, a0, a1, a2, a3, a4, a5, a6, a7, a8, a9, a10, b0, b1, b2, b3, b4, b5, b6, b7, b8, b9, b10]) rfl ⟨m, ⟨q.k, q.f, q.v, q.s, q.r, B', a', q.cl ++ [y], q.B, q.b, q.vt⟩, by simp [MgP.val], ?_, ?_, by omega, by omega, by first | omega | (simp; omega), by first | omega | (simp; omega), ?_⟩
                    · refine MgD.rd (lo := Wa.heap.size) ?_
                      refine MgD.dr ?_
                      iterate 22 (refine MgD.set ?_ (by first | omega | (simp; omega)) _ _)
                      exact MG.out
                    · refine MgD5.rd (lo := Wc.heap.size) ?_
                      refine MgD5.dr ?_
                      iterate 22 (refine MgD5.set ?_ (by first | omega | (simp; omega)) _ _)
                      exact MQ.out
                    · refine Below.drew ?_
                      iterate 22 (refine Below.setCell ?_ (by first | (simp; done) | (simp; omega)) _)
                      exact BL.out
              · go_simp
                refine hK.out _ _ trivial (fun _ => ?_)
                clear hK K
                (try simp only [Act.put, List.setIfInBounds_toArray, List.set_cons_zero, List.set_cons_succ])
                refine wpAnyH_ready (rs := [1]) (by kernel_rfl) (by simp) ?_
                refine AllReadyH.cons rfl (fun K hK => ?_) AllReadyH.nil
                · have y0 := (KQ.out.cell 0).trans (show _ = some (.int .i64 q.k) from rfl); have y1 := (KQ.out.cell 1).trans (show _ = some (.int .i64 q.f) from rfl); have y2 := (KQ.out.cell 2).trans (show _ = some (.int .i64 q.v) from rfl); have y3 := (KQ.out.cell 3).trans (show _ = some (.int .i64 q.s) from rfl); have y4 := (KQ.out.cell 4).trans (show _ = some (.int .i64 q.r.c) from rfl); have y5 := (KQ.out.cell 5).trans (show _ = some (.int .i64 q.r.n) from rfl); have y6 := (KQ.out.cell 6).trans (show _ = some (.int .i64 q.r.o) from rfl); have y7 := (KQ.out.cell 7).trans (show _ = some (.int .i64 q.r.x) from rfl); have y8 := (KQ.out.cell 8).trans (show _ = some (.int .i64 q.r.y) from rfl); have y9 := (KQ.out.cell 9).trans (show _ = some (.slice B' (q.cl.length + 1) a') from rfl); have y10 := (KQ.out.cell 10).trans (show _ = some (.slice q.B q.vt.length q.b) from rfl)
                  go_simp
                  refine hK.out _ _ trivial (fun _ => ?_)
                  clear y0 y1 y2 y3 y4 y5 y6 y7 y8 y9 y10
                  clear hK K
                  (try simp only [Act.put, List.setIfInBounds_toArray, List.set_cons_zero, List.set_cons_succ])
                  refine wpAnyH_ready (rs := [3]) (by kernel_rfl) (by simp) ?_
                  refine AllReadyH.cons rfl (fun K hK => ?_) AllReadyH.nil
                  · go_simp
                    refine hK.out _ _ trivial (fun _ => ?_)
                    clear hK K
                    (try simp only [Act.put, List.setIfInBounds_toArray, List.set_cons_zero, List.set_cons_succ])
                    refine wpAnyH_done (by kernel_rfl) ?_ _
                    go_wp2
                    go_light
                    refine bodyPost_ret (v := .tuple #[.agg #[.int .i64 m.k, .int .i64 m.f, .int .i64 m.v, .int .i64 m.s, .int .i64 m.r.c, .int .i64 m.r.n, .int .i64 m.r.o, .int .i64 m.r.x, .int .i64 m.r.y, .slice m.A m.cl.length m.a, .slice m.B m.vt.length m.b], .agg #[.int .i64 q.k, .int .i64 q.f, .int .i64 q.v, .int .i64 q.s, .int .i64 q.r.c, .int .i64 q.r.n, .int .i64 q.r.o, .int .i64 q.r.x, .int .i64 q.r.y, .slice B' (q.cl.length + 1) a', .slice q.B q.vt.length q.b]]) (by simp [results, Try.results8, go_sem, a0, a1, a2, a3, a4, a5, a6, a7, a8, a9, a10, b0, b1, b2, b3, b4, b5, b6, b7, b8, b9, b10]) rfl ⟨m, ⟨q.k, q.f, q.v, q.s, q.r, B', a', q.cl ++ [y], q.B, q.b, q.vt⟩, by simp [MgP.val], ?_, ?_, by omega, by omega, by first | omega | (simp; omega), by first | omega | (simp; omega), ?_⟩
                    · refine MgD.rd (lo := Wa.heap.size) ?_
                      refine MgD.dr ?_
                      iterate 22 (refine MgD.set ?_ (by first | omega | (simp; omega)) _ _)
                      exact MG.out
                    · refine MgD5.rd (lo := Wc.heap.size) ?_
                      refine MgD5.dr ?_
                      iterate 22 (refine MgD5.set ?_ (by first | omega | (simp; omega)) _ _)
                      exact MQ.out
                    · refine Below.drew ?_
                      iterate 22 (refine Below.setCell ?_ (by first | (simp; done) | (simp; omega)) _)
                      exact BL.out
            · have y0 := (KQ.out.cell 0).trans (show _ = some (.int .i64 q.k) from rfl); have y1 := (KQ.out.cell 1).trans (show _ = some (.int .i64 q.f) from rfl); have y2 := (KQ.out.cell 2).trans (show _ = some (.int .i64 q.v) from rfl); have y3 := (KQ.out.cell 3).trans (show _ = some (.int .i64 q.s) from rfl); have y4 := (KQ.out.cell 4).trans (show _ = some (.int .i64 q.r.c) from rfl); have y5 := (KQ.out.cell 5).trans (show _ = some (.int .i64 q.r.n) from rfl); have y6 := (KQ.out.cell 6).trans (show _ = some (.int .i64 q.r.o) from rfl); have y7 := (KQ.out.cell 7).trans (show _ = some (.int .i64 q.r.x) from rfl); have y8 := (KQ.out.cell 8).trans (show _ = some (.int .i64 q.r.y) from rfl); have y9 := (KQ.out.cell 9).trans (show _ = some (.slice B' (q.cl.length + 1) a') from rfl); have y10 := (KQ.out.cell 10).trans (show _ = some (.slice q.B q.vt.length q.b) from rfl)
              go_simp
              refine hK.out _ _ trivial (fun _ => ?_)
              clear y0 y1 y2 y3 y4 y5 y6 y7 y8 y9 y10
              clear hK K
              (try simp only [Act.put, List.setIfInBounds_toArray, List.set_cons_zero, List.set_cons_succ])
              refine wpAnyH_ready (rs := [0]) (by kernel_rfl) (by simp) ?_
              refine AllReadyH.cons rfl (fun K hK => ?_) AllReadyH.nil
              · have y0 := (KM.out.cell 0).trans (show _ = some (.int .i64 m.k) from rfl); have y1 := (KM.out.cell 1).trans (show _ = some (.int .i64 m.f) from rfl); have y2 := (KM.out.cell 2).trans (show _ = some (.int .i64 m.v) from rfl); have y3 := (KM.out.cell 3).trans (show _ = some (.int .i64 m.s) from rfl); have y4 := (KM.out.cell 4).trans (show _ = some (.int .i64 m.r.c) from rfl); have y5 := (KM.out.cell 5).trans (show _ = some (.int .i64 m.r.n) from rfl); have y6 := (KM.out.cell 6).trans (show _ = some (.int .i64 m.r.o) from rfl); have y7 := (KM.out.cell 7).trans (show _ = some (.int .i64 m.r.x) from rfl); have y8 := (KM.out.cell 8).trans (show _ = some (.int .i64 m.r.y) from rfl); have y9 := (KM.out.cell 9).trans (show _ = some (.slice m.A m.cl.length m.a) from rfl); have y10 := (KM.out.cell 10).trans (show _ = some (.slice m.B m.vt.length m.b) from rfl)
                go_simp
                refine hK.out _ _ trivial (fun _ => ?_)
                clear y0 y1 y2 y3 y4 y5 y6 y7 y8 y9 y10
                clear hK K
                (try simp only [Act.put, List.setIfInBounds_toArray, List.set_cons_zero, List.set_cons_succ])
                refine wpAnyH_ready (rs := [2]) (by kernel_rfl) (by simp) ?_
                refine AllReadyH.cons rfl (fun K hK => ?_) AllReadyH.nil
                · go_simp
                  refine hK.out _ _ trivial (fun _ => ?_)
                  clear hK K
                  (try simp only [Act.put, List.setIfInBounds_toArray, List.set_cons_zero, List.set_cons_succ])
                  refine wpAnyH_ready (rs := [3]) (by kernel_rfl) (by simp) ?_
                  refine AllReadyH.cons rfl (fun K hK => ?_) AllReadyH.nil
                  · go_simp
                    refine hK.out _ _ trivial (fun _ => ?_)
                    clear hK K
                    (try simp only [Act.put, List.setIfInBounds_toArray, List.set_cons_zero, List.set_cons_succ])
                    refine wpAnyH_done (by kernel_rfl) ?_ _
                    go_wp2
                    go_light
                    refine bodyPost_ret (v := .tuple #[.agg #[.int .i64 m.k, .int .i64 m.f, .int .i64 m.v, .int .i64 m.s, .int .i64 m.r.c, .int .i64 m.r.n, .int .i64 m.r.o, .int .i64 m.r.x, .int .i64 m.r.y, .slice m.A m.cl.length m.a, .slice m.B m.vt.length m.b], .agg #[.int .i64 q.k, .int .i64 q.f, .int .i64 q.v, .int .i64 q.s, .int .i64 q.r.c, .int .i64 q.r.n, .int .i64 q.r.o, .int .i64 q.r.x, .int .i64 q.r.y, .slice B' (q.cl.length + 1) a', .slice q.B q.vt.length q.b]]) (by simp [results, Try.results8, go_sem, a0, a1, a2, a3, a4, a5, a6, a7, a8, a9, a10, b0, b1, b2, b3, b4, b5, b6, b7, b8, b9, b10]) rfl ⟨m, ⟨q.k, q.f, q.v, q.s, q.r, B', a', q.cl ++ [y], q.B, q.b, q.vt⟩, by simp [MgP.val], ?_, ?_, by omega, by omega, by first | omega | (simp; omega), by first | omega | (simp; omega), ?_⟩
                    · refine MgD.rd (lo := Wa.heap.size) ?_
                      refine MgD.dr ?_
                      iterate 22 (refine MgD.set ?_ (by first | omega | (simp; omega)) _ _)
                      exact MG.out
                    · refine MgD5.rd (lo := Wc.heap.size) ?_
                      refine MgD5.dr ?_
                      iterate 22 (refine MgD5.set ?_ (by first | omega | (simp; omega)) _ _)
                      exact MQ.out
                    · refine Below.drew ?_
                      iterate 22 (refine Below.setCell ?_ (by first | (simp; done) | (simp; omega)) _)
                      exact BL.out
        · go_simp
          have KA := Lib.hid (KA.out.alloc (.cells #[.int .i64 y.s, .int .i64 y.v, .int .i64 y.r.c, .int .i64 y.r.n, .int .i64 y.r.o, .int .i64 y.r.x, .int .i64 y.r.y] 60))
          have KB := Lib.hid (KB.out.alloc (.cells #[.int .i64 y.s, .int .i64 y.v, .int .i64 y.r.c, .int .i64 y.r.n, .int .i64 y.r.o, .int .i64 y.r.x, .int .i64 y.r.y] 60))
          have KM := Lib.hid (KM.out.alloc (.cells #[.int .i64 y.s, .int .i64 y.v, .int .i64 y.r.c, .int .i64 y.r.n, .int .i64 y.r.o, .int .i64 y.r.x, .int .i64 y.r.y] 60))
          have KQ := Lib.hid (KQ.out.alloc (.cells #[.int .i64 y.s, .int .i64 y.v, .int .i64 y.r.c, .int .i64 y.r.n, .int .i64 y.r.o, .int .i64 y.r.x, .int .i64 y.r.y] 60))
          have MG := Lib.hid (MG.out.below ((Below.refl _ _).alloc (Nat.le_refl _) (.cells #[.int .i64 y.s, .int .i64 y.v, .int .i64 y.r.c, .int .i64 y.r.n, .int .i64 y.r.o, .int .i64 y.r.x, .int .i64 y.r.y] 60)))
          have MQ := Lib.hid (MQ.out.below ((Below.refl _ _).alloc (Nat.le_refl _) (.cells #[.int .i64 y.s, .int .i64 y.v, .int .i64 y.r.c, .int .i64 y.r.n, .int .i64 y.r.o, .int .i64 y.r.x, .int .i64 y.r.y] 60)))
          have BL := Lib.hid (BL.out.alloc BL.out.size (.cells #[.int .i64 y.s, .int .i64 y.v, .int .i64 y.r.c, .int .i64 y.r.n, .int .i64 y.r.o, .int .i64 y.r.x, .int .i64 y.r.y] 60))
          refine hK.out _ _ trivial (fun _ => ?_)
          clear hK K
          (try simp only [Act.put, List.setIfInBounds_toArray, List.set_cons_zero, List.set_cons_succ])
          refine wpAnyH_ready (rs := [1]) (by kernel_rfl) (by simp) ?_
          refine AllReadyH.cons rfl (fun K hK => ?_) AllReadyH.nil
          · have x9 := (KQ.out.cell 9).trans (show _ = some (.slice q.A q.cl.length q.a) from rfl)
            go_simp
            refine hK.out _ _ trivial (fun _ => ?_)
            clear x9
            clear hK K
            (try simp only [Act.put, List.setIfInBounds_toArray, List.set_cons_zero, List.set_cons_succ])
            have hbase : Wc.heap.size ≤ (Wf.alloc (.cells #[.int .i64 y.s, .int .i64 y.v, .int .i64 y.r.c, .int .i64 y.r.n, .int .i64 y.r.o, .int .i64 y.r.x, .int .i64 y.r.y] 60)).heap.size := by simp only [alloc_heap_size]; have := KQ.out.lt; simp only [alloc_heap_size] at this; omega
            refine wpAnyH_ready (rs := [5]) (by kernel_rfl) (by simp) ?_
            refine AllReadyH.cons rfl (fun K hK => ?_) AllReadyH.nil
            refine step_append_own (by rfl) _ _ 25 (by rfl) Wc.heap.size 60 i0 (.agg #[.int .i64 0, .int .i64 0, .int .i64 0, .int .i64 0, .int .i64 0, .int .i64 0, .int .i64 0]) 7 56 Try.underlying25 I1.out I2.out I3.out I4.out (by rfl) (by omega) (.slice q.A q.cl.length q.a) q.cl.length (q.cl.flatMap Cl.cells) (by rfl) MQ.out.oc ⟨Wf.heap.size, 0, none⟩ 1 1 y.cells (by rfl) (by rfl) (row_cells Wf 60 #[.int .i64 y.s, .int .i64 y.v, .int .i64 y.r.c, .int .i64 y.r.n, .int .i64 y.r.o, .int .i64 y.r.x, .int .i64 y.r.y] y.cells rfl) (claim_one y) (by unfold maxLen; omega) (by omega) hbase ?_
            intro v' Wg ho hg _
            obtain ⟨B', a', hv', hm'⟩ := own_form ho
            subst hv'
            have MQc := MQ
            have hrow : ∀ k, (Value.slice q.A q.cl.length q.a).ownBlock = some k → Wc.heap.size ≤ k := fun k hk => (own_block_ge MQc.out.oc k hk).1
            have KA := Lib.hid (KA.out.grown hg (fun e => own_ne MQc.out.oc KA.out (by decide) e.symm))
            have KB := Lib.hid (KB.out.grown hg (fun e => own_ne MQc.out.oc KB.out (by decide) e.symm))
            have KM := Lib.hid (KM.out.grown hg (fun e => own_ne MQc.out.oc KM.out (by decide) e.symm))
            have KQ := Lib.hid (KQ.out.grown hg (fun e => own_ne MQc.out.oc KQ.out (by decide) e.symm))
            have MG := Lib.hid (MG0.out.old hg (fun k hk => by have := hrow k hk; omega) MG.out)
            have BL := Lib.hid (BL.out.grown hg BL.out.size (fun k hk => by have := hrow k hk; omega))
            have MN : Hid (MgD5 Wg Wc.heap.size ⟨q.k, q.f, q.v, q.s, q.r, B', a', q.cl ++ [y], q.B, q.b, q.vt⟩) := by
              have hne : ∀ x, (Value.slice q.B q.vt.length q.b).ownBlock = some x → (Value.slice q.A q.cl.length q.a).ownBlock ≠ some x := own_row_ne MQc.out.ov MQc.out.oc (by decide)
              refine ⟨by simp; omega, MQc.out.nv, by rw [List.flatMap_append, List.length_append]; simpa using ho, MQc.out.ov.kept hg ?_, fun v hv => World.ownsRow.kept (MQc.out.oo v hv) hg ?_⟩
              · rcases hq : (Value.slice q.B q.vt.length q.b).ownBlock with _ | x
                · exact .inl rfl
                · exact .inr fun e => hne x hq e.symm
              · rcases hq : (Value.slice v.A v.cl.length v.c).ownBlock with _ | x
                · exact .inl rfl
                · exact .inr fun e => SQ.out v hv x e.symm hq
            clear ho hg MQ MQc hrow
            refine hK.out _ _ trivial (fun _ => ?_)
            clear hK K
            (try simp only [Act.put, List.setIfInBounds_toArray, List.set_cons_zero, List.set_cons_succ])
            refine takeD 6 32 (v := ?_) rfl rfl (by kernel_rfl) (by kernel_rfl) (by kernel_rfl) (fun _ _ _ h => h) (Or.inl ⟨by rfl, ?_⟩) (by assumption) ?_
            rotate_left
            · intro w1 hSw; go_simp; (try with_reducible rfl)
            (try simp only [Act.put, List.setIfInBounds_toArray, List.set_cons_zero, List.set_cons_succ])
            have x0 : Wg.cell? ⟨Wd.heap.size, 0, none⟩ = some (.int .i64 q.k) := KQ.out.cell 0
            have x1 : Wg.cell? ⟨Wd.heap.size, 1, none⟩ = some (.int .i64 q.f) := KQ.out.cell 1
            have x2 : Wg.cell? ⟨Wd.heap.size, 2, none⟩ = some (.int .i64 q.v) := KQ.out.cell 2
            have x3 : Wg.cell? ⟨Wd.heap.size, 3, none⟩ = some (.int .i64 q.s) := KQ.out.cell 3
            have x4 : Wg.cell? ⟨Wd.heap.size, 4, none⟩ = some (.int .i64 q.r.c) := KQ.out.cell 4
            have x5 : Wg.cell? ⟨Wd.heap.size, 5, none⟩ = some (.int .i64 q.r.n) := KQ.out.cell 5
            have x6 : Wg.cell? ⟨Wd.heap.size, 6, none⟩ = some (.int .i64 q.r.o) := KQ.out.cell 6
            have x7 : Wg.cell? ⟨Wd.heap.size, 7, none⟩ = some (.int .i64 q.r.x) := KQ.out.cell 7
            have x8 : Wg.cell? ⟨Wd.heap.size, 8, none⟩ = some (.int .i64 q.r.y) := KQ.out.cell 8
            have x9 : Wg.cell? ⟨Wd.heap.size, 9, none⟩ = some (.slice q.A q.cl.length q.a) := KQ.out.cell 9
            have x10 : Wg.cell? ⟨Wd.heap.size, 10, none⟩ = some (.slice q.B q.vt.length q.b) := KQ.out.cell 10
            have xf := KQ.out.frozen
            have lq := KQ.out.lt
            refine wpAnyH_ready (rs := [7]) (by kernel_rfl) (by simp) ?_
            refine AllReadyH.cons rfl (fun K hK => ?_) AllReadyH.nil
            go_simp
            have KA := Lib.hid (KA.out.far (show w.heap.size ≠ Wd.heap.size by omega) 9 (.slice B' (q.cl.length + 1) a'))
            have KB := Lib.hid (KB.out.far (show w.heap.size + 1 ≠ Wd.heap.size by omega) 9 (.slice B' (q.cl.length + 1) a'))
            have KM := Lib.hid (KM.out.far (show Wb.heap.size ≠ Wd.heap.size by omega) 9 (.slice B' (q.cl.length + 1) a'))
            have MG := Lib.hid (MG.out.setB KQ.out 9 (.slice B' (q.cl.length + 1) a'))
            have MQ := Lib.hid (MN.out.setB KQ.out 9 (.slice B' (q.cl.length + 1) a'))
            have KQ : Hid (Blk (Wg.setCell ⟨Wd.heap.size, 9, none⟩ (.slice B' (q.cl.length + 1) a')) Wd.heap.size 28 #[.int .i64 q.k, .int .i64 q.f, .int .i64 q.v, .int .i64 q.s, .int .i64 q.r.c, .int .i64 q.r.n, .int .i64 q.r.o, .int .i64 q.r.x, .int .i64 q.r.y, .slice B' (q.cl.length + 1) a', .slice q.B q.vt.length q.b]) := by have := KQ.out.set 9 (.slice B' (q.cl.length + 1) a'); simpa [Hid] using this
            have BL := Lib.hid (BL.out.setCell (by simp; omega) (.slice B' (q.cl.length + 1) a') (p := ⟨Wd.heap.size, 9, none⟩))
            refine hK.out _ _ trivial (fun _ => ?_)
            clear hK K
            (try simp only [Act.put, List.setIfInBounds_toArray, List.set_cons_zero, List.set_cons_succ])
            refine wpAnyH_done (by kernel_rfl) ?_ _
            clear xf lq x0 x1 x2 x3 x4 x5 x6 x7 x8 x9 x10 RD MG0 SQ MN
            generalize Wg.setCell ⟨Wd.heap.size, 9, none⟩ (.slice B' (q.cl.length + 1) a') = Wh at *
            go_wp2_with (fail)
            have hwd : Wb.heap.size < Wd.heap.size := by omega
            have nq0 : ¬ w.heap.size = Wd.heap.size := by omega
            have nq1 : ¬ Wd.heap.size = w.heap.size := by omega
            have a0 : Wh.cell? ⟨w.heap.size, 0, none⟩ = some (.int .i64 0) := KA.out.cell 0
            have a1 : Wh.cell? ⟨w.heap.size, 1, none⟩ = some (.int .i64 0) := KA.out.cell 1
            have a2 : Wh.cell? ⟨w.heap.size, 2, none⟩ = some (.int .i64 0) := KA.out.cell 2
            have a3 : Wh.cell? ⟨w.heap.size, 3, none⟩ = some (.int .i64 0) := KA.out.cell 3
            have a4 : Wh.cell? ⟨w.heap.size, 4, none⟩ = some (.int .i64 0) := KA.out.cell 4
            have a5 : Wh.cell? ⟨w.heap.size, 5, none⟩ = some (.int .i64 0) := KA.out.cell 5
            have a6 : Wh.cell? ⟨w.heap.size, 6, none⟩ = some (.int .i64 0) := KA.out.cell 6
            have a7 : Wh.cell? ⟨w.heap.size, 7, none⟩ = some (.int .i64 0) := KA.out.cell 7
            have a8 : Wh.cell? ⟨w.heap.size, 8, none⟩ = some (.int .i64 0) := KA.out.cell 8
            have a9 : Wh.cell? ⟨w.heap.size, 9, none⟩ = some (.slice none 0 0) := KA.out.cell 9
            have a10 : Wh.cell? ⟨w.heap.size, 10, none⟩ = some (.slice none 0 0) := KA.out.cell 10
            have b0 : Wh.cell? ⟨w.heap.size + 1, 0, none⟩ = some (.int .i64 0) := KB.out.cell 0
            have b1 : Wh.cell? ⟨w.heap.size + 1, 1, none⟩ = some (.int .i64 0) := KB.out.cell 1
            have b2 : Wh.cell? ⟨w.heap.size + 1, 2, none⟩ = some (.int .i64 0) := KB.out.cell 2
            have b3 : Wh.cell? ⟨w.heap.size + 1, 3, none⟩ = some (.int .i64 0) := KB.out.cell 3
            have b4 : Wh.cell? ⟨w.heap.size + 1, 4, none⟩ = some (.int .i64 0) := KB.out.cell 4
            have b5 : Wh.cell? ⟨w.heap.size + 1, 5, none⟩ = some (.int .i64 0) := KB.out.cell 5
            have b6 : Wh.cell? ⟨w.heap.size + 1, 6, none⟩ = some (.int .i64 0) := KB.out.cell 6
            have b7 : Wh.cell? ⟨w.heap.size + 1, 7, none⟩ = some (.int .i64 0) := KB.out.cell 7
            have b8 : Wh.cell? ⟨w.heap.size + 1, 8, none⟩ = some (.int .i64 0) := KB.out.cell 8
            have b9 : Wh.cell? ⟨w.heap.size + 1, 9, none⟩ = some (.slice none 0 0) := KB.out.cell 9
            have b10 : Wh.cell? ⟨w.heap.size + 1, 10, none⟩ = some (.slice none 0 0) := KB.out.cell 10
            have af := KA.out.frozen
            have bf := KB.out.frozen
            have la := KA.out.lt
            have lb := KB.out.lt
            refine wp_region_held_drew (S := fun _ => True) (by kernel_rfl) trivial (fun hS => ?_)
            refine wpAnyH_ready (rs := [0, 1]) (by kernel_rfl) (by simp) ?_
            refine AllReadyH.cons rfl (fun K hK => ?_) (AllReadyH.cons rfl (fun K hK => ?_) AllReadyH.nil)
            · have y0 := (KM.out.cell 0).trans (show _ = some (.int .i64 m.k) from rfl); have y1 := (KM.out.cell 1).trans (show _ = some (.int .i64 m.f) from rfl); have y2 := (KM.out.cell 2).trans (show _ = some (.int .i64 m.v) from rfl); have y3 := (KM.out.cell 3).trans (show _ = some (.int .i64 m.s) from rfl); have y4 := (KM.out.cell 4).trans (show _ = some (.int .i64 m.r.c) from rfl); have y5 := (KM.out.cell 5).trans (show _ = some (.int .i64 m.r.n) from rfl); have y6 := (KM.out.cell 6).trans (show _ = some (.int .i64 m.r.o) from rfl); have y7 := (KM.out.cell 7).trans (show _ = some (.int .i64 m.r.x) from rfl); have y8 := (KM.out.cell 8).trans (show _ = some (.int .i64 m.r.y) from rfl); have y9 := (KM.out.cell 9).trans (show _ = some (.slice m.A m.cl.length m.a) from rfl); have y10 := (KM.out.cell 10).trans (show _ = some (.slice m.B m.vt.length m.b) from rfl)
              go_simp
              refine hK.out _ _ trivial (fun _ => ?_)
              clear y0 y1 y2 y3 y4 y5 y6 y7 y8 y9 y10
              clear hK K
              (try simp only [Act.put, List.setIfInBounds_toArray, List.set_cons_zero, List.set_cons_succ])
              refine wpAnyH_ready (rs := [1, 2]) (by kernel_rfl) (by simp) ?_
              refine AllReadyH.cons rfl (fun K hK => ?_) (AllReadyH.cons rfl (fun K hK => ?_) AllReadyH.nil)
              · have y0 := (KQ.out.cell 0).trans (show _ = some (.int .i64 q.k) from rfl); have y1 := (KQ.out.cell 1).trans (show _ = some (.int .i64 q.f) from rfl); have y2 := (KQ.out.cell 2).trans (show _ = some (.int .i64 q.v) from rfl); have y3 := (KQ.out.cell 3).trans (show _ = some (.int .i64 q.s) from rfl); have y4 := (KQ.out.cell 4).trans (show _ = some (.int .i64 q.r.c) from rfl); have y5 := (KQ.out.cell 5).trans (show _ = some (.int .i64 q.r.n) from rfl); have y6 := (KQ.out.cell 6).trans (show _ = some (.int .i64 q.r.o) from rfl); have y7 := (KQ.out.cell 7).trans (show _ = some (.int .i64 q.r.x) from rfl); have y8 := (KQ.out.cell 8).trans (show _ = some (.int .i64 q.r.y) from rfl); have y9 := (KQ.out.cell 9).trans (show _ = some (.slice B' (q.cl.length + 1) a') from rfl); have y10 := (KQ.out.cell 10).trans (show _ = some (.slice q.B q.vt.length q.b) from rfl)
                go_simp
                refine hK.out _ _ trivial (fun _ => ?_)
                clear y0 y1 y2 y3 y4 y5 y6 y7 y8 y9 y10
                clear hK K
                (try simp only [Act.put, List.setIfInBounds_toArray, List.set_cons_zero, List.set_cons_succ])
                refine wpAnyH_ready (rs := [2]) (by kernel_rfl) (by simp) ?_
                refine AllReadyH.cons rfl (fun K hK => ?_) AllReadyH.nil
                · go_simp
                  refine hK.out _ _ trivial (fun _ => ?_)
                  clear hK K
                  (try simp only [Act.put, List.setIfInBounds_toArray, List.set_cons_zero, List.set_cons_succ])
                  refine wpAnyH_ready (rs := [3]) (by kernel_rfl) (by simp) ?_
                  refine AllReadyH.cons rfl (fun K hK => ?_) AllReadyH.nil
                  · go_simp
                    refine hK.out _ _ trivial (fun _ => ?_)
                    clear hK K
                    (try simp only [Act.put, List.setIfInBounds_toArray, List.set_cons_zero, List.set_cons_succ])
                    refine wpAnyH_done (by kernel_rfl) ?_ _
                    go_wp2
                    go_light
                    refine bodyPost_ret (v := .tuple #[.agg #[.int .i64 m.k, .int .i64 m.f, .int .i64 m.v, .int .i64 m.s, .int .i64 m.r.c, .int .i64 m.r.n, .int .i64 m.r.o, .int .i64 m.r.x, .int .i64 m.r.y, .slice m.A m.cl.length m.a, .slice m.B m.vt.length m.b], .agg #[.int .i64 q.k, .int .i64 q.f, .int .i64 q.v, .int .i64 q.s, .int .i64 q.r.c, .int .i64 q.r.n, .int .i64 q.r.o, .int .i64 q.r.x, .int .i64 q.r.y, .slice B' (q.cl.length + 1) a', .slice q.B q.vt.length q.b]]) (by simp [results, Try.results8, go_sem, a0, a1, a2, a3, a4, a5, a6, a7, a8, a9, a10, b0, b1, b2, b3, b4, b5, b6, b7, b8, b9, b10]) rfl ⟨m, ⟨q.k, q.f, q.v, q.s, q.r, B', a', q.cl ++ [y], q.B, q.b, q.vt⟩, by simp [MgP.val], ?_, ?_, by omega, by omega, by first | omega | (simp; omega), by first | omega | (simp; omega), ?_⟩
                    · refine MgD.rd (lo := Wa.heap.size) ?_
                      refine MgD.dr ?_
                      iterate 22 (refine MgD.set ?_ (by first | omega | (simp; omega)) _ _)
                      exact MG.out
                    · refine MgD5.rd (lo := Wc.heap.size) ?_
                      refine MgD5.dr ?_
                      iterate 22 (refine MgD5.set ?_ (by first | omega | (simp; omega)) _ _)
                      exact MQ.out
                    · refine Below.drew ?_
                      iterate 22 (refine Below.setCell ?_ (by first | (simp; done) | (simp; omega)) _)
                      exact BL.out
              · go_simp
                refine hK.out _ _ trivial (fun _ => ?_)
                clear hK K
                (try simp only [Act.put, List.setIfInBounds_toArray, List.set_cons_zero, List.set_cons_succ])
                refine wpAnyH_ready (rs := [1]) (by kernel_rfl) (by simp) ?_
                refine AllReadyH.cons rfl (fun K hK => ?_) AllReadyH.nil
                · have y0 := (KQ.out.cell 0).trans (show _ = some (.int .i64 q.k) from rfl); have y1 := (KQ.out.cell 1).trans (show _ = some (.int .i64 q.f) from rfl); have y2 := (KQ.out.cell 2).trans (show _ = some (.int .i64 q.v) from rfl); have y3 := (KQ.out.cell 3).trans (show _ = some (.int .i64 q.s) from rfl); have y4 := (KQ.out.cell 4).trans (show _ = some (.int .i64 q.r.c) from rfl); have y5 := (KQ.out.cell 5).trans (show _ = some (.int .i64 q.r.n) from rfl); have y6 := (KQ.out.cell 6).trans (show _ = some (.int .i64 q.r.o) from rfl); have y7 := (KQ.out.cell 7).trans (show _ = some (.int .i64 q.r.x) from rfl); have y8 := (KQ.out.cell 8).trans (show _ = some (.int .i64 q.r.y) from rfl); have y9 := (KQ.out.cell 9).trans (show _ = some (.slice B' (q.cl.length + 1) a') from rfl); have y10 := (KQ.out.cell 10).trans (show _ = some (.slice q.B q.vt.length q.b) from rfl)
                  go_simp
                  refine hK.out _ _ trivial (fun _ => ?_)
                  clear y0 y1 y2 y3 y4 y5 y6 y7 y8 y9 y10
                  clear hK K
                  (try simp only [Act.put, List.setIfInBounds_toArray, List.set_cons_zero, List.set_cons_succ])
                  refine wpAnyH_ready (rs := [3]) (by kernel_rfl) (by simp) ?_
                  refine AllReadyH.cons rfl (fun K hK => ?_) AllReadyH.nil
                  · go_simp
                    refine hK.out _ _ trivial (fun _ => ?_)
                    clear hK K
                    (try simp only [Act.put, List.setIfInBounds_toArray, List.set_cons_zero, List.set_cons_succ])
                    refine wpAnyH_done (by kernel_rfl) ?_ _
                    go_wp2
                    go_light
                    refine bodyPost_ret (v := .tuple #[.agg #[.int .i64 m.k, .int .i64 m.f, .int .i64 m.v, .int .i64 m.s, .int .i64 m.r.c, .int .i64 m.r.n, .int .i64 m.r.o, .int .i64 m.r.x, .int .i64 m.r.y, .slice m.A m.cl.length m.a, .slice m.B m.vt.length m.b], .agg #[.int .i64 q.k, .int .i64 q.f, .int .i64 q.v, .int .i64 q.s, .int .i64 q.r.c, .int .i64 q.r.n, .int .i64 q.r.o, .int .i64 q.r.x, .int .i64 q.r.y, .slice B' (q.cl.length + 1) a', .slice q.B q.vt.length q.b]]) (by simp [results, Try.results8, go_sem, a0, a1, a2, a3, a4, a5, a6, a7, a8, a9, a10, b0, b1, b2, b3, b4, b5, b6, b7, b8, b9, b10]) rfl ⟨m, ⟨q.k, q.f, q.v, q.s, q.r, B', a', q.cl ++ [y], q.B, q.b, q.vt⟩, by simp [MgP.val], ?_, ?_, by omega, by omega, by first | omega | (simp; omega), by first | omega | (simp; omega), ?_⟩
                    · refine MgD.rd (lo := Wa.heap.size) ?_
                      refine MgD.dr ?_
                      iterate 22 (refine MgD.set ?_ (by first | omega | (simp; omega)) _ _)
                      exact MG.out
                    · refine MgD5.rd (lo := Wc.heap.size) ?_
                      refine MgD5.dr ?_
                      iterate 22 (refine MgD5.set ?_ (by first | omega | (simp; omega)) _ _)
                      exact MQ.out
                    · refine Below.drew ?_
                      iterate 22 (refine Below.setCell ?_ (by first | (simp; done) | (simp; omega)) _)
                      exact BL.out
            · have y0 := (KQ.out.cell 0).trans (show _ = some (.int .i64 q.k) from rfl); have y1 := (KQ.out.cell 1).trans (show _ = some (.int .i64 q.f) from rfl); have y2 := (KQ.out.cell 2).trans (show _ = some (.int .i64 q.v) from rfl); have y3 := (KQ.out.cell 3).trans (show _ = some (.int .i64 q.s) from rfl); have y4 := (KQ.out.cell 4).trans (show _ = some (.int .i64 q.r.c) from rfl); have y5 := (KQ.out.cell 5).trans (show _ = some (.int .i64 q.r.n) from rfl); have y6 := (KQ.out.cell 6).trans (show _ = some (.int .i64 q.r.o) from rfl); have y7 := (KQ.out.cell 7).trans (show _ = some (.int .i64 q.r.x) from rfl); have y8 := (KQ.out.cell 8).trans (show _ = some (.int .i64 q.r.y) from rfl); have y9 := (KQ.out.cell 9).trans (show _ = some (.slice B' (q.cl.length + 1) a') from rfl); have y10 := (KQ.out.cell 10).trans (show _ = some (.slice q.B q.vt.length q.b) from rfl)
              go_simp
              refine hK.out _ _ trivial (fun _ => ?_)
              clear y0 y1 y2 y3 y4 y5 y6 y7 y8 y9 y10
              clear hK K
              (try simp only [Act.put, List.setIfInBounds_toArray, List.set_cons_zero, List.set_cons_succ])
              refine wpAnyH_ready (rs := [0]) (by kernel_rfl) (by simp) ?_
              refine AllReadyH.cons rfl (fun K hK => ?_) AllReadyH.nil
              · have y0 := (KM.out.cell 0).trans (show _ = some (.int .i64 m.k) from rfl); have y1 := (KM.out.cell 1).trans (show _ = some (.int .i64 m.f) from rfl); have y2 := (KM.out.cell 2).trans (show _ = some (.int .i64 m.v) from rfl); have y3 := (KM.out.cell 3).trans (show _ = some (.int .i64 m.s) from rfl); have y4 := (KM.out.cell 4).trans (show _ = some (.int .i64 m.r.c) from rfl); have y5 := (KM.out.cell 5).trans (show _ = some (.int .i64 m.r.n) from rfl); have y6 := (KM.out.cell 6).trans (show _ = some (.int .i64 m.r.o) from rfl); have y7 := (KM.out.cell 7).trans (show _ = some (.int .i64 m.r.x) from rfl); have y8 := (KM.out.cell 8).trans (show _ = some (.int .i64 m.r.y) from rfl); have y9 := (KM.out.cell 9).trans (show _ = some (.slice m.A m.cl.length m.a) from rfl); have y10 := (KM.out.cell 10).trans (show _ = some (.slice m.B m.vt.length m.b) from rfl)
                go_simp
                refine hK.out _ _ trivial (fun _ => ?_)
                clear y0 y1 y2 y3 y4 y5 y6 y7 y8 y9 y10
                clear hK K
                (try simp only [Act.put, List.setIfInBounds_toArray, List.set_cons_zero, List.set_cons_succ])
                refine wpAnyH_ready (rs := [2]) (by kernel_rfl) (by simp) ?_
                refine AllReadyH.cons rfl (fun K hK => ?_) AllReadyH.nil
                · go_simp
                  refine hK.out _ _ trivial (fun _ => ?_)
                  clear hK K
                  (try simp only [Act.put, List.setIfInBounds_toArray, List.set_cons_zero, List.set_cons_succ])
                  refine wpAnyH_ready (rs := [3]) (by kernel_rfl) (by simp) ?_
                  refine AllReadyH.cons rfl (fun K hK => ?_) AllReadyH.nil
                  · go_simp
                    refine hK.out _ _ trivial (fun _ => ?_)
                    clear hK K
                    (try simp only [Act.put, List.setIfInBounds_toArray, List.set_cons_zero, List.set_cons_succ])
                    refine wpAnyH_done (by kernel_rfl) ?_ _
                    go_wp2
                    go_light
                    refine bodyPost_ret (v := .tuple #[.agg #[.int .i64 m.k, .int .i64 m.f, .int .i64 m.v, .int .i64 m.s, .int .i64 m.r.c, .int .i64 m.r.n, .int .i64 m.r.o, .int .i64 m.r.x, .int .i64 m.r.y, .slice m.A m.cl.length m.a, .slice m.B m.vt.length m.b], .agg #[.int .i64 q.k, .int .i64 q.f, .int .i64 q.v, .int .i64 q.s, .int .i64 q.r.c, .int .i64 q.r.n, .int .i64 q.r.o, .int .i64 q.r.x, .int .i64 q.r.y, .slice B' (q.cl.length + 1) a', .slice q.B q.vt.length q.b]]) (by simp [results, Try.results8, go_sem, a0, a1, a2, a3, a4, a5, a6, a7, a8, a9, a10, b0, b1, b2, b3, b4, b5, b6, b7, b8, b9, b10]) rfl ⟨m, ⟨q.k, q.f, q.v, q.s, q.r, B', a', q.cl ++ [y], q.B, q.b, q.vt⟩, by simp [MgP.val], ?_, ?_, by omega, by omega, by first | omega | (simp; omega), by first | omega | (simp; omega), ?_⟩
                    · refine MgD.rd (lo := Wa.heap.size) ?_
                      refine MgD.dr ?_
                      iterate 22 (refine MgD.set ?_ (by first | omega | (simp; omega)) _ _)
                      exact MG.out
                    · refine MgD5.rd (lo := Wc.heap.size) ?_
                      refine MgD5.dr ?_
                      iterate 22 (refine MgD5.set ?_ (by first | omega | (simp; omega)) _ _)
                      exact MQ.out
                    · refine Below.drew ?_
                      iterate 22 (refine Below.setCell ?_ (by first | (simp; done) | (simp; omega)) _)
                      exact BL.out
    have e0 : (g == 0) = false := by simp [hg0]
    have e1 : (g == 1) = false := by simp [hg1]
    clear hg0 hg1
    go_wp2_with (fail)
    clear RD MG0 SQ
    have hwd : Wb.heap.size < Wd.heap.size := by omega
    have nq0 : ¬ w.heap.size = Wd.heap.size := by omega
    have nq1 : ¬ Wd.heap.size = w.heap.size := by omega
    have a0 : We.cell? ⟨w.heap.size, 0, none⟩ = some (.int .i64 0) := KA.out.cell 0
    have a1 : We.cell? ⟨w.heap.size, 1, none⟩ = some (.int .i64 0) := KA.out.cell 1
    have a2 : We.cell? ⟨w.heap.size, 2, none⟩ = some (.int .i64 0) := KA.out.cell 2
    have a3 : We.cell? ⟨w.heap.size, 3, none⟩ = some (.int .i64 0) := KA.out.cell 3
    have a4 : We.cell? ⟨w.heap.size, 4, none⟩ = some (.int .i64 0) := KA.out.cell 4
    have a5 : We.cell? ⟨w.heap.size, 5, none⟩ = some (.int .i64 0) := KA.out.cell 5
    have a6 : We.cell? ⟨w.heap.size, 6, none⟩ = some (.int .i64 0) := KA.out.cell 6
    have a7 : We.cell? ⟨w.heap.size, 7, none⟩ = some (.int .i64 0) := KA.out.cell 7
    have a8 : We.cell? ⟨w.heap.size, 8, none⟩ = some (.int .i64 0) := KA.out.cell 8
    have a9 : We.cell? ⟨w.heap.size, 9, none⟩ = some (.slice none 0 0) := KA.out.cell 9
    have a10 : We.cell? ⟨w.heap.size, 10, none⟩ = some (.slice none 0 0) := KA.out.cell 10
    have b0 : We.cell? ⟨w.heap.size + 1, 0, none⟩ = some (.int .i64 0) := KB.out.cell 0
    have b1 : We.cell? ⟨w.heap.size + 1, 1, none⟩ = some (.int .i64 0) := KB.out.cell 1
    have b2 : We.cell? ⟨w.heap.size + 1, 2, none⟩ = some (.int .i64 0) := KB.out.cell 2
    have b3 : We.cell? ⟨w.heap.size + 1, 3, none⟩ = some (.int .i64 0) := KB.out.cell 3
    have b4 : We.cell? ⟨w.heap.size + 1, 4, none⟩ = some (.int .i64 0) := KB.out.cell 4
    have b5 : We.cell? ⟨w.heap.size + 1, 5, none⟩ = some (.int .i64 0) := KB.out.cell 5
    have b6 : We.cell? ⟨w.heap.size + 1, 6, none⟩ = some (.int .i64 0) := KB.out.cell 6
    have b7 : We.cell? ⟨w.heap.size + 1, 7, none⟩ = some (.int .i64 0) := KB.out.cell 7
    have b8 : We.cell? ⟨w.heap.size + 1, 8, none⟩ = some (.int .i64 0) := KB.out.cell 8
    have b9 : We.cell? ⟨w.heap.size + 1, 9, none⟩ = some (.slice none 0 0) := KB.out.cell 9
    have b10 : We.cell? ⟨w.heap.size + 1, 10, none⟩ = some (.slice none 0 0) := KB.out.cell 10
    have af := KA.out.frozen
    have bf := KB.out.frozen
    have la := KA.out.lt
    have lb := KB.out.lt
    refine wp_region_held_drew (S := fun _ => True) (by kernel_rfl) trivial (fun hS => ?_)
    refine wpAnyH_ready (rs := [0, 1]) (by kernel_rfl) (by simp) ?_
    refine AllReadyH.cons rfl (fun K hK => ?_) (AllReadyH.cons rfl (fun K hK => ?_) AllReadyH.nil)
    · have y0 := (KM.out.cell 0).trans (show _ = some (.int .i64 m.k) from rfl); have y1 := (KM.out.cell 1).trans (show _ = some (.int .i64 m.f) from rfl); have y2 := (KM.out.cell 2).trans (show _ = some (.int .i64 m.v) from rfl); have y3 := (KM.out.cell 3).trans (show _ = some (.int .i64 m.s) from rfl); have y4 := (KM.out.cell 4).trans (show _ = some (.int .i64 m.r.c) from rfl); have y5 := (KM.out.cell 5).trans (show _ = some (.int .i64 m.r.n) from rfl); have y6 := (KM.out.cell 6).trans (show _ = some (.int .i64 m.r.o) from rfl); have y7 := (KM.out.cell 7).trans (show _ = some (.int .i64 m.r.x) from rfl); have y8 := (KM.out.cell 8).trans (show _ = some (.int .i64 m.r.y) from rfl); have y9 := (KM.out.cell 9).trans (show _ = some (.slice m.A m.cl.length m.a) from rfl); have y10 := (KM.out.cell 10).trans (show _ = some (.slice m.B m.vt.length m.b) from rfl)
      go_simp
      refine hK.out _ _ trivial (fun _ => ?_)
      clear y0 y1 y2 y3 y4 y5 y6 y7 y8 y9 y10
      clear hK K
      (try simp only [Act.put, List.setIfInBounds_toArray, List.set_cons_zero, List.set_cons_succ])
      refine wpAnyH_ready (rs := [1, 2]) (by kernel_rfl) (by simp) ?_
      refine AllReadyH.cons rfl (fun K hK => ?_) (AllReadyH.cons rfl (fun K hK => ?_) AllReadyH.nil)
      · have y0 := (KQ.out.cell 0).trans (show _ = some (.int .i64 q.k) from rfl); have y1 := (KQ.out.cell 1).trans (show _ = some (.int .i64 q.f) from rfl); have y2 := (KQ.out.cell 2).trans (show _ = some (.int .i64 q.v) from rfl); have y3 := (KQ.out.cell 3).trans (show _ = some (.int .i64 q.s) from rfl); have y4 := (KQ.out.cell 4).trans (show _ = some (.int .i64 q.r.c) from rfl); have y5 := (KQ.out.cell 5).trans (show _ = some (.int .i64 q.r.n) from rfl); have y6 := (KQ.out.cell 6).trans (show _ = some (.int .i64 q.r.o) from rfl); have y7 := (KQ.out.cell 7).trans (show _ = some (.int .i64 q.r.x) from rfl); have y8 := (KQ.out.cell 8).trans (show _ = some (.int .i64 q.r.y) from rfl); have y9 := (KQ.out.cell 9).trans (show _ = some (.slice q.A q.cl.length q.a) from rfl); have y10 := (KQ.out.cell 10).trans (show _ = some (.slice q.B q.vt.length q.b) from rfl)
        go_simp
        refine hK.out _ _ trivial (fun _ => ?_)
        clear y0 y1 y2 y3 y4 y5 y6 y7 y8 y9 y10
        clear hK K
        (try simp only [Act.put, List.setIfInBounds_toArray, List.set_cons_zero, List.set_cons_succ])
        refine wpAnyH_ready (rs := [2]) (by kernel_rfl) (by simp) ?_
        refine AllReadyH.cons rfl (fun K hK => ?_) AllReadyH.nil
        · go_simp
          refine hK.out _ _ trivial (fun _ => ?_)
          clear hK K
          (try simp only [Act.put, List.setIfInBounds_toArray, List.set_cons_zero, List.set_cons_succ])
          refine wpAnyH_ready (rs := [3]) (by kernel_rfl) (by simp) ?_
          refine AllReadyH.cons rfl (fun K hK => ?_) AllReadyH.nil
          · go_simp
            refine hK.out _ _ trivial (fun _ => ?_)
            clear hK K
            (try simp only [Act.put, List.setIfInBounds_toArray, List.set_cons_zero, List.set_cons_succ])
            refine wpAnyH_done (by kernel_rfl) ?_ _
            go_wp2
            go_light
            refine bodyPost_ret (v := .tuple #[.agg #[.int .i64 m.k, .int .i64 m.f, .int .i64 m.v, .int .i64 m.s, .int .i64 m.r.c, .int .i64 m.r.n, .int .i64 m.r.o, .int .i64 m.r.x, .int .i64 m.r.y, .slice m.A m.cl.length m.a, .slice m.B m.vt.length m.b], .agg #[.int .i64 q.k, .int .i64 q.f, .int .i64 q.v, .int .i64 q.s, .int .i64 q.r.c, .int .i64 q.r.n, .int .i64 q.r.o, .int .i64 q.r.x, .int .i64 q.r.y, .slice q.A q.cl.length q.a, .slice q.B q.vt.length q.b]]) (by simp [results, Try.results8, go_sem, a0, a1, a2, a3, a4, a5, a6, a7, a8, a9, a10, b0, b1, b2, b3, b4, b5, b6, b7, b8, b9, b10]) rfl ⟨m, q, rfl, ?_, ?_, by omega, by omega, by first | omega | (simp; omega), by first | omega | (simp; omega), ?_⟩
            · refine MgD.rd (lo := Wa.heap.size) ?_
              refine MgD.dr ?_
              iterate 22 (refine MgD.set ?_ (by first | omega | (simp; omega)) _ _)
              exact MG.out
            · refine MgD.rd (lo := Wc.heap.size) ?_
              refine MgD.dr ?_
              iterate 22 (refine MgD.set ?_ (by first | omega | (simp; omega)) _ _)
              exact MQ.out
            · refine Below.drew ?_
              iterate 22 (refine Below.setCell ?_ (by first | (simp; done) | (simp; omega)) _)
              exact BL.out
      · go_simp
        refine hK.out _ _ trivial (fun _ => ?_)
        clear hK K
        (try simp only [Act.put, List.setIfInBounds_toArray, List.set_cons_zero, List.set_cons_succ])
        refine wpAnyH_ready (rs := [1]) (by kernel_rfl) (by simp) ?_
        refine AllReadyH.cons rfl (fun K hK => ?_) AllReadyH.nil
        · have y0 := (KQ.out.cell 0).trans (show _ = some (.int .i64 q.k) from rfl); have y1 := (KQ.out.cell 1).trans (show _ = some (.int .i64 q.f) from rfl); have y2 := (KQ.out.cell 2).trans (show _ = some (.int .i64 q.v) from rfl); have y3 := (KQ.out.cell 3).trans (show _ = some (.int .i64 q.s) from rfl); have y4 := (KQ.out.cell 4).trans (show _ = some (.int .i64 q.r.c) from rfl); have y5 := (KQ.out.cell 5).trans (show _ = some (.int .i64 q.r.n) from rfl); have y6 := (KQ.out.cell 6).trans (show _ = some (.int .i64 q.r.o) from rfl); have y7 := (KQ.out.cell 7).trans (show _ = some (.int .i64 q.r.x) from rfl); have y8 := (KQ.out.cell 8).trans (show _ = some (.int .i64 q.r.y) from rfl); have y9 := (KQ.out.cell 9).trans (show _ = some (.slice q.A q.cl.length q.a) from rfl); have y10 := (KQ.out.cell 10).trans (show _ = some (.slice q.B q.vt.length q.b) from rfl)
          go_simp
          refine hK.out _ _ trivial (fun _ => ?_)
          clear y0 y1 y2 y3 y4 y5 y6 y7 y8 y9 y10
          clear hK K
          (try simp only [Act.put, List.setIfInBounds_toArray, List.set_cons_zero, List.set_cons_succ])
          refine wpAnyH_ready (rs := [3]) (by kernel_rfl) (by simp) ?_
          refine AllReadyH.cons rfl (fun K hK => ?_) AllReadyH.nil
          · go_simp
            refine hK.out _ _ trivial (fun _ => ?_)
            clear hK K
            (try simp only [Act.put, List.setIfInBounds_toArray, List.set_cons_zero, List.set_cons_succ])
            refine wpAnyH_done (by kernel_rfl) ?_ _
            go_wp2
            go_light
            refine bodyPost_ret (v := .tuple #[.agg #[.int .i64 m.k, .int .i64 m.f, .int .i64 m.v, .int .i64 m.s, .int .i64 m.r.c, .int .i64 m.r.n, .int .i64 m.r.o, .int .i64 m.r.x, .int .i64 m.r.y, .slice m.A m.cl.length m.a, .slice m.B m.vt.length m.b], .agg #[.int .i64 q.k, .int .i64 q.f, .int .i64 q.v, .int .i64 q.s, .int .i64 q.r.c, .int .i64 q.r.n, .int .i64 q.r.o, .int .i64 q.r.x, .int .i64 q.r.y, .slice q.A q.cl.length q.a, .slice q.B q.vt.length q.b]]) (by simp [results, Try.results8, go_sem, a0, a1, a2, a3, a4, a5, a6, a7, a8, a9, a10, b0, b1, b2, b3, b4, b5, b6, b7, b8, b9, b10]) rfl ⟨m, q, rfl, ?_, ?_, by omega, by omega, by first | omega | (simp; omega), by first | omega | (simp; omega), ?_⟩
            · refine MgD.rd (lo := Wa.heap.size) ?_
              refine MgD.dr ?_
              iterate 22 (refine MgD.set ?_ (by first | omega | (simp; omega)) _ _)
              exact MG.out
            · refine MgD.rd (lo := Wc.heap.size) ?_
              refine MgD.dr ?_
              iterate 22 (refine MgD.set ?_ (by first | omega | (simp; omega)) _ _)
              exact MQ.out
            · refine Below.drew ?_
              iterate 22 (refine Below.setCell ?_ (by first | (simp; done) | (simp; omega)) _)
              exact BL.out
    · have y0 := (KQ.out.cell 0).trans (show _ = some (.int .i64 q.k) from rfl); have y1 := (KQ.out.cell 1).trans (show _ = some (.int .i64 q.f) from rfl); have y2 := (KQ.out.cell 2).trans (show _ = some (.int .i64 q.v) from rfl); have y3 := (KQ.out.cell 3).trans (show _ = some (.int .i64 q.s) from rfl); have y4 := (KQ.out.cell 4).trans (show _ = some (.int .i64 q.r.c) from rfl); have y5 := (KQ.out.cell 5).trans (show _ = some (.int .i64 q.r.n) from rfl); have y6 := (KQ.out.cell 6).trans (show _ = some (.int .i64 q.r.o) from rfl); have y7 := (KQ.out.cell 7).trans (show _ = some (.int .i64 q.r.x) from rfl); have y8 := (KQ.out.cell 8).trans (show _ = some (.int .i64 q.r.y) from rfl); have y9 := (KQ.out.cell 9).trans (show _ = some (.slice q.A q.cl.length q.a) from rfl); have y10 := (KQ.out.cell 10).trans (show _ = some (.slice q.B q.vt.length q.b) from rfl)
      go_simp
      refine hK.out _ _ trivial (fun _ => ?_)
      clear y0 y1 y2 y3 y4 y5 y6 y7 y8 y9 y10
      clear hK K
      (try simp only [Act.put, List.setIfInBounds_toArray, List.set_cons_zero, List.set_cons_succ])
      refine wpAnyH_ready (rs := [0]) (by kernel_rfl) (by simp) ?_
      refine AllReadyH.cons rfl (fun K hK => ?_) AllReadyH.nil
      · have y0 := (KM.out.cell 0).trans (show _ = some (.int .i64 m.k) from rfl); have y1 := (KM.out.cell 1).trans (show _ = some (.int .i64 m.f) from rfl); have y2 := (KM.out.cell 2).trans (show _ = some (.int .i64 m.v) from rfl); have y3 := (KM.out.cell 3).trans (show _ = some (.int .i64 m.s) from rfl); have y4 := (KM.out.cell 4).trans (show _ = some (.int .i64 m.r.c) from rfl); have y5 := (KM.out.cell 5).trans (show _ = some (.int .i64 m.r.n) from rfl); have y6 := (KM.out.cell 6).trans (show _ = some (.int .i64 m.r.o) from rfl); have y7 := (KM.out.cell 7).trans (show _ = some (.int .i64 m.r.x) from rfl); have y8 := (KM.out.cell 8).trans (show _ = some (.int .i64 m.r.y) from rfl); have y9 := (KM.out.cell 9).trans (show _ = some (.slice m.A m.cl.length m.a) from rfl); have y10 := (KM.out.cell 10).trans (show _ = some (.slice m.B m.vt.length m.b) from rfl)
        go_simp
        refine hK.out _ _ trivial (fun _ => ?_)
        clear y0 y1 y2 y3 y4 y5 y6 y7 y8 y9 y10
        clear hK K
        (try simp only [Act.put, List.setIfInBounds_toArray, List.set_cons_zero, List.set_cons_succ])
        refine wpAnyH_ready (rs := [2]) (by kernel_rfl) (by simp) ?_
        refine AllReadyH.cons rfl (fun K hK => ?_) AllReadyH.nil
        · go_simp
          refine hK.out _ _ trivial (fun _ => ?_)
          clear hK K
          (try simp only [Act.put, List.setIfInBounds_toArray, List.set_cons_zero, List.set_cons_succ])
          refine wpAnyH_ready (rs := [3]) (by kernel_rfl) (by simp) ?_
          refine AllReadyH.cons rfl (fun K hK => ?_) AllReadyH.nil
          · go_simp
            refine hK.out _ _ trivial (fun _ => ?_)
            clear hK K
            (try simp only [Act.put, List.setIfInBounds_toArray, List.set_cons_zero, List.set_cons_succ])
            refine wpAnyH_done (by kernel_rfl) ?_ _
            go_wp2
            go_light
            refine bodyPost_ret (v := .tuple #[.agg #[.int .i64 m.k, .int .i64 m.f, .int .i64 m.v, .int .i64 m.s, .int .i64 m.r.c, .int .i64 m.r.n, .int .i64 m.r.o, .int .i64 m.r.x, .int .i64 m.r.y, .slice m.A m.cl.length m.a, .slice m.B m.vt.length m.b], .agg #[.int .i64 q.k, .int .i64 q.f, .int .i64 q.v, .int .i64 q.s, .int .i64 q.r.c, .int .i64 q.r.n, .int .i64 q.r.o, .int .i64 q.r.x, .int .i64 q.r.y, .slice q.A q.cl.length q.a, .slice q.B q.vt.length q.b]]) (by simp [results, Try.results8, go_sem, a0, a1, a2, a3, a4, a5, a6, a7, a8, a9, a10, b0, b1, b2, b3, b4, b5, b6, b7, b8, b9, b10]) rfl ⟨m, q, rfl, ?_, ?_, by omega, by omega, by first | omega | (simp; omega), by first | omega | (simp; omega), ?_⟩
            · refine MgD.rd (lo := Wa.heap.size) ?_
              refine MgD.dr ?_
              iterate 22 (refine MgD.set ?_ (by first | omega | (simp; omega)) _ _)
              exact MG.out
            · refine MgD.rd (lo := Wc.heap.size) ?_
              refine MgD.dr ?_
              iterate 22 (refine MgD.set ?_ (by first | omega | (simp; omega)) _ _)
              exact MQ.out
            · refine Below.drew ?_
              iterate 22 (refine Below.setCell ?_ (by first | (simp; done) | (simp; omega)) _)
              exact BL.out
  · have hd' : (d == 0) = false := by simp [hd]
    clear hd
    have a0 : Wc.cell? ⟨w.heap.size, 0, none⟩ = some (.int .i64 0) := KA.out.cell 0
    have a1 : Wc.cell? ⟨w.heap.size, 1, none⟩ = some (.int .i64 0) := KA.out.cell 1
    have a2 : Wc.cell? ⟨w.heap.size, 2, none⟩ = some (.int .i64 0) := KA.out.cell 2
    have a3 : Wc.cell? ⟨w.heap.size, 3, none⟩ = some (.int .i64 0) := KA.out.cell 3
    have a4 : Wc.cell? ⟨w.heap.size, 4, none⟩ = some (.int .i64 0) := KA.out.cell 4
    have a5 : Wc.cell? ⟨w.heap.size, 5, none⟩ = some (.int .i64 0) := KA.out.cell 5
    have a6 : Wc.cell? ⟨w.heap.size, 6, none⟩ = some (.int .i64 0) := KA.out.cell 6
    have a7 : Wc.cell? ⟨w.heap.size, 7, none⟩ = some (.int .i64 0) := KA.out.cell 7
    have a8 : Wc.cell? ⟨w.heap.size, 8, none⟩ = some (.int .i64 0) := KA.out.cell 8
    have a9 : Wc.cell? ⟨w.heap.size, 9, none⟩ = some (.slice none 0 0) := KA.out.cell 9
    have a10 : Wc.cell? ⟨w.heap.size, 10, none⟩ = some (.slice none 0 0) := KA.out.cell 10
    have b0 : Wc.cell? ⟨w.heap.size + 1, 0, none⟩ = some (.int .i64 0) := KB.out.cell 0
    have b1 : Wc.cell? ⟨w.heap.size + 1, 1, none⟩ = some (.int .i64 0) := KB.out.cell 1
    have b2 : Wc.cell? ⟨w.heap.size + 1, 2, none⟩ = some (.int .i64 0) := KB.out.cell 2
    have b3 : Wc.cell? ⟨w.heap.size + 1, 3, none⟩ = some (.int .i64 0) := KB.out.cell 3
    have b4 : Wc.cell? ⟨w.heap.size + 1, 4, none⟩ = some (.int .i64 0) := KB.out.cell 4
    have b5 : Wc.cell? ⟨w.heap.size + 1, 5, none⟩ = some (.int .i64 0) := KB.out.cell 5
    have b6 : Wc.cell? ⟨w.heap.size + 1, 6, none⟩ = some (.int .i64 0) := KB.out.cell 6
    have b7 : Wc.cell? ⟨w.heap.size + 1, 7, none⟩ = some (.int .i64 0) := KB.out.cell 7
    have b8 : Wc.cell? ⟨w.heap.size + 1, 8, none⟩ = some (.int .i64 0) := KB.out.cell 8
    have b9 : Wc.cell? ⟨w.heap.size + 1, 9, none⟩ = some (.slice none 0 0) := KB.out.cell 9
    have b10 : Wc.cell? ⟨w.heap.size + 1, 10, none⟩ = some (.slice none 0 0) := KB.out.cell 10
    have la := KA.out.lt
    have lb := KB.out.lt
    have lm := KM.out.lt
    go_wp2_with (fail)
    refine wp_region_held_drew (S := fun _ => True) (by kernel_rfl) trivial (fun hHeld => ?_)
    refine takeD 1 36 (v := ?_) rfl rfl (by kernel_rfl) (by kernel_rfl) (by kernel_rfl) (fun _ _ _ h => h) (Or.inl ⟨by rfl, ?_⟩) (by assumption) ?_
    rotate_left
    · intro w1 hSw; go_simp; (try with_reducible rfl)
    (try simp only [Act.put, List.setIfInBounds_toArray, List.set_cons_zero, List.set_cons_succ])
    refine wpAnyH_ready (rs := [0, 2]) (by kernel_rfl) (by simp) ?_
    refine AllReadyH.cons rfl (fun K hK => ?_) (AllReadyH.cons rfl (fun K hK => ?_) AllReadyH.nil)
    · have hzz := 0
      have y0 := (KM.out.cell 0).trans (show _ = some (.int .i64 m.k) from rfl)
      have y1 := (KM.out.cell 1).trans (show _ = some (.int .i64 m.f) from rfl)
      have y2 := (KM.out.cell 2).trans (show _ = some (.int .i64 m.v) from rfl)
      have y3 := (KM.out.cell 3).trans (show _ = some (.int .i64 m.s) from rfl)
      have y4 := (KM.out.cell 4).trans (show _ = some (.int .i64 m.r.c) from rfl)
      have y5 := (KM.out.cell 5).trans (show _ = some (.int .i64 m.r.n) from rfl)
      have y6 := (KM.out.cell 6).trans (show _ = some (.int .i64 m.r.o) from rfl)
      have y7 := (KM.out.cell 7).trans (show _ = some (.int .i64 m.r.x) from rfl)
      have y8 := (KM.out.cell 8).trans (show _ = some (.int .i64 m.r.y) from rfl)
      have y9 := (KM.out.cell 9).trans (show _ = some (.slice m.A m.cl.length m.a) from rfl)
      have y10 := (KM.out.cell 10).trans (show _ = some (.slice m.B m.vt.length m.b) from rfl)
      go_simp
      refine hK.out _ _ trivial (fun _ => ?_)
      clear hzz y0 y1 y2 y3 y4 y5 y6 y7 y8 y9 y10
      clear hK K
      (try simp only [Act.put, List.setIfInBounds_toArray, List.set_cons_zero, List.set_cons_succ])
      refine wpAnyH_ready (rs := [2]) (by kernel_rfl) (by simp) ?_
      refine AllReadyH.cons rfl (fun K hK => ?_) AllReadyH.nil
      · go_simp
        refine (l20AnyMsg (RD.out.below (Below.refl _ _).drew) (by omega)).mono ?_
        rintro e Wd ⟨q, rfl, hmg, qd, qd0, qd1, hr, hgr⟩
        have hszd := hgr.size
        have hgr' := grownBy_trans (Below.grownBy (w := Wc) (Below.refl _ _).drew (some (w.heap.size + 1 + 1))) hgr
        have KA := Lib.hid (KA.out.grown hgr' (by simp; omega))
        have KB := Lib.hid (KB.out.grown hgr' (by simp))
        have KM := Lib.hid (KM.out.grown hgr' (by simp; omega))
        have MG := Lib.hid (MG.out.far hgr' (fun k hk => by cases hk; omega))
        have BL := Lib.hid (BL.out.grown hgr' BL.out.size (by intro k hk; cases hk; omega))
        have MQ : Hid (MgD Wd Wc.heap.size q) := hmg
        have NQ : q.cl.length ≤ 4 ∧ q.vt.length ≤ 4 := ⟨hmg.nc, hmg.nv⟩
        clear hr hgr hgr' hmg
        refine hK.out _ _ trivial (fun _ => ?_)
        clear hK K
        (try simp only [Act.put, List.setIfInBounds_toArray, List.set_cons_zero, List.set_cons_succ])
        clear a0 a1 a2 a3 a4 a5 a6 a7 a8 a9 a10 b0 b1 b2 b3 b4 b5 b6 b7 b8 b9 b10 la lb lm
        have a0 : Wd.cell? ⟨w.heap.size, 0, none⟩ = some (.int .i64 0) := KA.out.cell 0
        have a1 : Wd.cell? ⟨w.heap.size, 1, none⟩ = some (.int .i64 0) := KA.out.cell 1
        have a2 : Wd.cell? ⟨w.heap.size, 2, none⟩ = some (.int .i64 0) := KA.out.cell 2
        have a3 : Wd.cell? ⟨w.heap.size, 3, none⟩ = some (.int .i64 0) := KA.out.cell 3
        have a4 : Wd.cell? ⟨w.heap.size, 4, none⟩ = some (.int .i64 0) := KA.out.cell 4
        have a5 : Wd.cell? ⟨w.heap.size, 5, none⟩ = some (.int .i64 0) := KA.out.cell 5
        have a6 : Wd.cell? ⟨w.heap.size, 6, none⟩ = some (.int .i64 0) := KA.out.cell 6
        have a7 : Wd.cell? ⟨w.heap.size, 7, none⟩ = some (.int .i64 0) := KA.out.cell 7
        have a8 : Wd.cell? ⟨w.heap.size, 8, none⟩ = some (.int .i64 0) := KA.out.cell 8
        have a9 : Wd.cell? ⟨w.heap.size, 9, none⟩ = some (.slice none 0 0) := KA.out.cell 9
        have a10 : Wd.cell? ⟨w.heap.size, 10, none⟩ = some (.slice none 0 0) := KA.out.cell 10
        have b0 : Wd.cell? ⟨w.heap.size + 1, 0, none⟩ = some (.int .i64 0) := KB.out.cell 0
        have b1 : Wd.cell? ⟨w.heap.size + 1, 1, none⟩ = some (.int .i64 0) := KB.out.cell 1
        have b2 : Wd.cell? ⟨w.heap.size + 1, 2, none⟩ = some (.int .i64 0) := KB.out.cell 2
        have b3 : Wd.cell? ⟨w.heap.size + 1, 3, none⟩ = some (.int .i64 0) := KB.out.cell 3
        have b4 : Wd.cell? ⟨w.heap.size + 1, 4, none⟩ = some (.int .i64 0) := KB.out.cell 4
        have b5 : Wd.cell? ⟨w.heap.size + 1, 5, none⟩ = some (.int .i64 0) := KB.out.cell 5
        have b6 : Wd.cell? ⟨w.heap.size + 1, 6, none⟩ = some (.int .i64 0) := KB.out.cell 6
        have b7 : Wd.cell? ⟨w.heap.size + 1, 7, none⟩ = some (.int .i64 0) := KB.out.cell 7
        have b8 : Wd.cell? ⟨w.heap.size + 1, 8, none⟩ = some (.int .i64 0) := KB.out.cell 8
        have b9 : Wd.cell? ⟨w.heap.size + 1, 9, none⟩ = some (.slice none 0 0) := KB.out.cell 9
        have b10 : Wd.cell? ⟨w.heap.size + 1, 10, none⟩ = some (.slice none 0 0) := KB.out.cell 10
        have af := KA.out.frozen
        have bf := KB.out.frozen
        have la := KA.out.lt
        have lb := KB.out.lt
        refine wpAnyH_ready (rs := [3]) (by kernel_rfl) (by simp) ?_
        refine AllReadyH.cons rfl (fun K hK => ?_) AllReadyH.nil
        · go_simp
          refine hK.out _ _ trivial (fun _ => ?_)
          clear hK K
          (try simp only [Act.put, List.setIfInBounds_toArray, List.set_cons_zero, List.set_cons_succ])
          refine wpAnyH_ready (rs := [4]) (by kernel_rfl) (by simp) ?_
          refine AllReadyH.cons rfl (fun K hK => ?_) AllReadyH.nil
          · go_simp
            refine hK.out _ _ trivial (fun _ => ?_)
            clear hK K
            (try simp only [Act.put, List.setIfInBounds_toArray, List.set_cons_zero, List.set_cons_succ])
            refine wpAnyH_done (by kernel_rfl) ?_ _
            go_wp2
            go_light
            refine bodyPost_ret (v := .tuple #[.agg #[.int .i64 m.k, .int .i64 m.f, .int .i64 m.v, .int .i64 m.s, .int .i64 m.r.c, .int .i64 m.r.n, .int .i64 m.r.o, .int .i64 m.r.x, .int .i64 m.r.y, .slice m.A m.cl.length m.a, .slice m.B m.vt.length m.b], .agg #[.int .i64 q.k, .int .i64 q.f, .int .i64 q.v, .int .i64 q.s, .int .i64 q.r.c, .int .i64 q.r.n, .int .i64 q.r.o, .int .i64 q.r.x, .int .i64 q.r.y, .slice q.A q.cl.length q.a, .slice q.B q.vt.length q.b]]) (by simp [results, Try.results8, go_sem, a0, a1, a2, a3, a4, a5, a6, a7, a8, a9, a10, b0, b1, b2, b3, b4, b5, b6, b7, b8, b9, b10]) rfl ⟨m, q, rfl, ?_, ?_, by omega, by omega, by omega, by omega, ?_⟩
            · refine MgD.rd (lo := Wa.heap.size) ?_
              iterate 22 (refine MgD.set ?_ (by first | omega | (simp; omega)) _ _)
              exact MG.out
            · refine MgD.rd (lo := Wc.heap.size) ?_
              iterate 22 (refine MgD.set ?_ (by first | omega | (simp; omega)) _ _)
              exact MQ.out
            · iterate 22 (refine Below.setCell ?_ (by first | (simp; done) | (simp; omega)) _)
              exact BL.out
    · go_simp
      refine (l20AnyMsg (RD.out.below (Below.refl _ _).drew) (by omega)).mono ?_
      rintro e Wd ⟨q, rfl, hmg, qd, qd0, qd1, hr, hgr⟩
      have hszd := hgr.size
      have hgr' := grownBy_trans (Below.grownBy (w := Wc) (Below.refl _ _).drew (some (w.heap.size + 1 + 1))) hgr
      have KA := Lib.hid (KA.out.grown hgr' (by simp; omega))
      have KB := Lib.hid (KB.out.grown hgr' (by simp))
      have KM := Lib.hid (KM.out.grown hgr' (by simp; omega))
      have MG := Lib.hid (MG.out.far hgr' (fun k hk => by cases hk; omega))
      have BL := Lib.hid (BL.out.grown hgr' BL.out.size (by intro k hk; cases hk; omega))
      have MQ : Hid (MgD Wd Wc.heap.size q) := hmg
      have NQ : q.cl.length ≤ 4 ∧ q.vt.length ≤ 4 := ⟨hmg.nc, hmg.nv⟩
      clear hr hgr hgr' hmg
      refine hK.out _ _ trivial (fun _ => ?_)
      clear hK K
      (try simp only [Act.put, List.setIfInBounds_toArray, List.set_cons_zero, List.set_cons_succ])
      refine wpAnyH_ready (rs := [0]) (by kernel_rfl) (by simp) ?_
      refine AllReadyH.cons rfl (fun K hK => ?_) AllReadyH.nil
      · have hzz := 0
        have y0 := (KM.out.cell 0).trans (show _ = some (.int .i64 m.k) from rfl)
        have y1 := (KM.out.cell 1).trans (show _ = some (.int .i64 m.f) from rfl)
        have y2 := (KM.out.cell 2).trans (show _ = some (.int .i64 m.v) from rfl)
        have y3 := (KM.out.cell 3).trans (show _ = some (.int .i64 m.s) from rfl)
        have y4 := (KM.out.cell 4).trans (show _ = some (.int .i64 m.r.c) from rfl)
        have y5 := (KM.out.cell 5).trans (show _ = some (.int .i64 m.r.n) from rfl)
        have y6 := (KM.out.cell 6).trans (show _ = some (.int .i64 m.r.o) from rfl)
        have y7 := (KM.out.cell 7).trans (show _ = some (.int .i64 m.r.x) from rfl)
        have y8 := (KM.out.cell 8).trans (show _ = some (.int .i64 m.r.y) from rfl)
        have y9 := (KM.out.cell 9).trans (show _ = some (.slice m.A m.cl.length m.a) from rfl)
        have y10 := (KM.out.cell 10).trans (show _ = some (.slice m.B m.vt.length m.b) from rfl)
        go_simp
        refine hK.out _ _ trivial (fun _ => ?_)
        clear hzz y0 y1 y2 y3 y4 y5 y6 y7 y8 y9 y10
        clear hK K
        (try simp only [Act.put, List.setIfInBounds_toArray, List.set_cons_zero, List.set_cons_succ])
        clear a0 a1 a2 a3 a4 a5 a6 a7 a8 a9 a10 b0 b1 b2 b3 b4 b5 b6 b7 b8 b9 b10 la lb lm
        have a0 : Wd.cell? ⟨w.heap.size, 0, none⟩ = some (.int .i64 0) := KA.out.cell 0
        have a1 : Wd.cell? ⟨w.heap.size, 1, none⟩ = some (.int .i64 0) := KA.out.cell 1
        have a2 : Wd.cell? ⟨w.heap.size, 2, none⟩ = some (.int .i64 0) := KA.out.cell 2
        have a3 : Wd.cell? ⟨w.heap.size, 3, none⟩ = some (.int .i64 0) := KA.out.cell 3
        have a4 : Wd.cell? ⟨w.heap.size, 4, none⟩ = some (.int .i64 0) := KA.out.cell 4
        have a5 : Wd.cell? ⟨w.heap.size, 5, none⟩ = some (.int .i64 0) := KA.out.cell 5
        have a6 : Wd.cell? ⟨w.heap.size, 6, none⟩ = some (.int .i64 0) := KA.out.cell 6
        have a7 : Wd.cell? ⟨w.heap.size, 7, none⟩ = some (.int .i64 0) := KA.out.cell 7
        have a8 : Wd.cell? ⟨w.heap.size, 8, none⟩ = some (.int .i64 0) := KA.out.cell 8
        have a9 : Wd.cell? ⟨w.heap.size, 9, none⟩ = some (.slice none 0 0) := KA.out.cell 9
        have a10 : Wd.cell? ⟨w.heap.size, 10, none⟩ = some (.slice none 0 0) := KA.out.cell 10
        have b0 : Wd.cell? ⟨w.heap.size + 1, 0, none⟩ = some (.int .i64 0) := KB.out.cell 0
        have b1 : Wd.cell? ⟨w.heap.size + 1, 1, none⟩ = some (.int .i64 0) := KB.out.cell 1
        have b2 : Wd.cell? ⟨w.heap.size + 1, 2, none⟩ = some (.int .i64 0) := KB.out.cell 2
        have b3 : Wd.cell? ⟨w.heap.size + 1, 3, none⟩ = some (.int .i64 0) := KB.out.cell 3
        have b4 : Wd.cell? ⟨w.heap.size + 1, 4, none⟩ = some (.int .i64 0) := KB.out.cell 4
        have b5 : Wd.cell? ⟨w.heap.size + 1, 5, none⟩ = some (.int .i64 0) := KB.out.cell 5
        have b6 : Wd.cell? ⟨w.heap.size + 1, 6, none⟩ = some (.int .i64 0) := KB.out.cell 6
        have b7 : Wd.cell? ⟨w.heap.size + 1, 7, none⟩ = some (.int .i64 0) := KB.out.cell 7
        have b8 : Wd.cell? ⟨w.heap.size + 1, 8, none⟩ = some (.int .i64 0) := KB.out.cell 8
        have b9 : Wd.cell? ⟨w.heap.size + 1, 9, none⟩ = some (.slice none 0 0) := KB.out.cell 9
        have b10 : Wd.cell? ⟨w.heap.size + 1, 10, none⟩ = some (.slice none 0 0) := KB.out.cell 10
        have af := KA.out.frozen
        have bf := KB.out.frozen
        have la := KA.out.lt
        have lb := KB.out.lt
        refine wpAnyH_ready (rs := [3]) (by kernel_rfl) (by simp) ?_
        refine AllReadyH.cons rfl (fun K hK => ?_) AllReadyH.nil
        · go_simp
          refine hK.out _ _ trivial (fun _ => ?_)
          clear hK K
          (try simp only [Act.put, List.setIfInBounds_toArray, List.set_cons_zero, List.set_cons_succ])
          refine wpAnyH_ready (rs := [4]) (by kernel_rfl) (by simp) ?_
          refine AllReadyH.cons rfl (fun K hK => ?_) AllReadyH.nil
          · go_simp
            refine hK.out _ _ trivial (fun _ => ?_)
            clear hK K
            (try simp only [Act.put, List.setIfInBounds_toArray, List.set_cons_zero, List.set_cons_succ])
            refine wpAnyH_done (by kernel_rfl) ?_ _
            go_wp2
            go_light
            refine bodyPost_ret (v := .tuple #[.agg #[.int .i64 m.k, .int .i64 m.f, .int .i64 m.v, .int .i64 m.s, .int .i64 m.r.c, .int .i64 m.r.n, .int .i64 m.r.o, .int .i64 m.r.x, .int .i64 m.r.y, .slice m.A m.cl.length m.a, .slice m.B m.vt.length m.b], .agg #[.int .i64 q.k, .int .i64 q.f, .int .i64 q.v, .int .i64 q.s, .int .i64 q.r.c, .int .i64 q.r.n, .int .i64 q.r.o, .int .i64 q.r.x, .int .i64 q.r.y, .slice q.A q.cl.length q.a, .slice q.B q.vt.length q.b]]) (by simp [results, Try.results8, go_sem, a0, a1, a2, a3, a4, a5, a6, a7, a8, a9, a10, b0, b1, b2, b3, b4, b5, b6, b7, b8, b9, b10]) rfl ⟨m, q, rfl, ?_, ?_, by omega, by omega, by omega, by omega, ?_⟩
            · refine MgD.rd (lo := Wa.heap.size) ?_
              iterate 22 (refine MgD.set ?_ (by first | omega | (simp; omega)) _ _)
              exact MG.out
            · refine MgD.rd (lo := Wc.heap.size) ?_
              iterate 22 (refine MgD.set ?_ (by first | omega | (simp; omega)) _ _)
              exact MQ.out
            · iterate 22 (refine Below.setCell ?_ (by first | (simp; done) | (simp; omega)) _)
              exact BL.out

end Go.Proofs.Ytjpbflehedbijaa
