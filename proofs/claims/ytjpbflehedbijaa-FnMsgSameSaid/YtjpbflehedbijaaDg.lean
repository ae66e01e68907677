/- Any letter drawn. -/
import Derived.Test.YtjpbflehedbijaaDf
namespace Go.Proofs.Ytjpbflehedbijaa
open Go.ChangeShapes Go.WideShapes Go.ChangeAt Go.RowKit
set_option linter.unusedVariables false
set_option linter.unusedSimpArgs false

theorem step_append_own {P : Program} {ops : Array Oper} {o : Oper} {a : Act} {w : World} {K : Act → World → Prop} {Q : Exit → Act → World → Prop} {E : Prop} (hgd : o.guard = none) (s x : Operand) (t : TypeId)
    (ho : o.op = .call { callee := .builtin .append, args := #[s, x], argTypes := #[t, t] })
    (base : Nat) (e : TypeId) (i : TypeInfo) (z : Value) (size bytes : Nat) (ht : P.underlying t = some (.slice e)) (hi : P.info? e = some i) (hz : i.zero = some z)
    (hsize : i.size = size) (hby : i.bytes = bytes) (hzs : z.cells.size = size) (hsz : 0 < size)
    (v : Value) (n : Nat) (xs : List Value) (hs : a.eval s = v) (hown : w.ownsRow base e size v n xs)
    (ad : Addr) (m c : Nat) (news : List Value) (hx : a.eval x = .slice (some ad) m c) (hl : news.length = m * size) (hnews : ∀ j u, news[j]? = some u → w.cell? (ad.add j) = some u) (h1 : ∀ u ∈ news, u.oneCell' = true)
    (h63 : n + m ≤ maxLen) (hbytes : (n + m) * bytes ≤ 140737488355328) (hbase : base ≤ w.heap.size)
    (h : ∀ v' w', w'.ownsRow base e size v' (n + m) (xs ++ news) → w.grownBy w' v.ownBlock → (v' = .slice none 0 0 ↔ v = .slice none 0 0 ∧ m = 0) → K (a.put o.dst v') w') :
    if Region.wanted o (yielded ops a.tmps) = true then Oper.wp P o a w K Q else E := by
  have hw : Region.wanted o (yielded ops a.tmps) = true := by simp [Region.wanted, hgd]
  rw [if_pos hw]
  exact wp_append_own w s x t ho base e i z size bytes ht hi hz hsize hby hzs hsz v n xs hs hown ad m c news hx hl hnews h1 h63 hbytes hbase h
theorem lit_cells (w : World) (t : TypeId) (l : List Int) : ∀ i (hi : i < l.length), (w.alloc (.cells (l.map (Value.int .i64)).toArray t)).cell? ⟨w.heap.size, i, none⟩ = some (.int .i64 (l[i]'hi)) := by
  intro i hi
  rw [cell_of_row _ _ i _ t (0, 0) (heap_alloc_new w _)]
  simp [hi]
theorem row_cells (w : World) (t : TypeId) (cs : Array Value) (news : List Value) (h : cs.toList = news) : ∀ j u, news[j]? = some u → (w.alloc (.cells cs t)).cell? (Addr.add ⟨w.heap.size, 0, none⟩ j) = some u := by
  intro j u hu
  have hb := (Blk.new (t := t) (cs := cs) w).cell j
  rw [show Addr.add ⟨w.heap.size, 0, none⟩ j = ⟨w.heap.size, j, none⟩ by simp [Addr.add]; intro h; exact h.symm, hb]
  rw [← h] at hu
  simpa using hu
theorem claim_one (y : Cl) : ∀ u ∈ y.cells, u.oneCell' = true := by
  intro u hu
  simp [Cl.cells] at hu
  rcases hu with rfl | rfl | rfl | rfl | rfl | rfl | rfl <;> rfl

set_option maxRecDepth 100000 in
set_option maxHeartbeats 8000000 in
theorem l20AnyMsg {w : World} {R : Nat} {A : Option Addr} {n c : Nat} {p : Int} (h : Reader w R A n c p) (hp : p ≤ 60000) :
    Calls Try.prog 30 #[.pointer (some ⟨R, 0, none⟩)] w fun e w' => ∃ m : MgP, e = .returned m.val ∧ MgD w' w.heap.size m ∧ Drawn w R A n c p 140 w' := by
  obtain ⟨i0, hi, hz0, hz1, hz2⟩ := info_parts infoClaim'
  have I1 := Lib.hid hi
  have I2 := Lib.hid hz0
  have I3 := Lib.hid hz1
  have I4 := Lib.hid hz2
  clear hi hz0 hz1 hz2
  have hOld := Lib.hid h.old
  have hRlt := h.lt
  have RD := Lib.hid (h.below ((Below.refl w.heap.size w).alloc (Nat.le_refl _) (.cells #[.int .i64 0, .int .i64 0, .int .i64 0, .int .i64 0, .int .i64 0, .int .i64 0, .int .i64 0, .int .i64 0, .int .i64 0, .slice none 0 0, .slice none 0 0] 28)))
  have GR := Lib.hid (World.grownBy_alloc w (.cells #[.int .i64 0, .int .i64 0, .int .i64 0, .int .i64 0, .int .i64 0, .int .i64 0, .int .i64 0, .int .i64 0, .int .i64 0, .slice none 0 0, .slice none 0 0] 28) (some R))
  have K0 : Hid (Blk (w.alloc (.cells #[.int .i64 0, .int .i64 0, .int .i64 0, .int .i64 0, .int .i64 0, .int .i64 0, .int .i64 0, .int .i64 0, .int .i64 0, .slice none 0 0, .slice none 0 0] 28)) w.heap.size 28 #[.int .i64 0, .int .i64 0, .int .i64 0, .int .i64 0, .int .i64 0, .int .i64 0, .int .i64 0, .int .i64 0, .int .i64 0, .slice none 0 0, .slice none 0 0]) := Blk.new w
  have hlo := h.lo
  clear h
  go_enter Try.func30, Try.ntmps30
  go_wp2_with (fail)
  refine (l20Msg RD.out (by omega)).mono ?_
  rintro e Wa ⟨m, rfl, hl3', hsp, hmg, qa, qa0, qa1, hr, hgr⟩
  have SP := Lib.hid hsp
  have hl3 : m.cl.length ≤ 3 := hl3'
  have MG : Hid (MgD Wa (w.heap.size + 1) m) := by simpa [Hid] using hmg
  have RD := Lib.hid hr
  have GR := Lib.hid (grownBy_trans GR.out hgr)
  have K0 := Lib.hid (K0.out.grown hgr (by simp; omega))
  clear hr hgr hmg hsp
  have lc := K0.out.lt
  have RD := Lib.hid (RD.out.below ((Below.refl Wa.heap.size Wa).alloc (Nat.le_refl _) (.cells #[.int .i64 m.k, .int .i64 m.f, .int .i64 m.v, .int .i64 m.s, .int .i64 m.r.c, .int .i64 m.r.n, .int .i64 m.r.o, .int .i64 m.r.x, .int .i64 m.r.y, .slice m.A m.cl.length m.a, .slice m.B m.vt.length m.b] 28)))
  have GR := Lib.hid (grownBy_trans GR.out (World.grownBy_alloc Wa (.cells #[.int .i64 m.k, .int .i64 m.f, .int .i64 m.v, .int .i64 m.s, .int .i64 m.r.c, .int .i64 m.r.n, .int .i64 m.r.o, .int .i64 m.r.x, .int .i64 m.r.y, .slice m.A m.cl.length m.a, .slice m.B m.vt.length m.b] 28) (some R)))
  have K0 := Lib.hid (K0.out.alloc (.cells #[.int .i64 m.k, .int .i64 m.f, .int .i64 m.v, .int .i64 m.s, .int .i64 m.r.c, .int .i64 m.r.n, .int .i64 m.r.o, .int .i64 m.r.x, .int .i64 m.r.y, .slice m.A m.cl.length m.a, .slice m.B m.vt.length m.b] 28))
  have MG := Lib.hid (MG.out.below ((Below.refl _ _).alloc (Nat.le_refl _) (.cells #[.int .i64 m.k, .int .i64 m.f, .int .i64 m.v, .int .i64 m.s, .int .i64 m.r.c, .int .i64 m.r.n, .int .i64 m.r.o, .int .i64 m.r.x, .int .i64 m.r.y, .slice m.A m.cl.length m.a, .slice m.B m.vt.length m.b] 28)))
  have K1 : Hid (Blk (Wa.alloc (.cells #[.int .i64 m.k, .int .i64 m.f, .int .i64 m.v, .int .i64 m.s, .int .i64 m.r.c, .int .i64 m.r.n, .int .i64 m.r.o, .int .i64 m.r.x, .int .i64 m.r.y, .slice m.A m.cl.length m.a, .slice m.B m.vt.length m.b] 28)) Wa.heap.size 28 #[.int .i64 m.k, .int .i64 m.f, .int .i64 m.v, .int .i64 m.s, .int .i64 m.r.c, .int .i64 m.r.n, .int .i64 m.r.o, .int .i64 m.r.x, .int .i64 m.r.y, .slice m.A m.cl.length m.a, .slice m.B m.vt.length m.b]) := Blk.new Wa
  have l1 : Wa.heap.size < (Wa.alloc (.cells #[.int .i64 m.k, .int .i64 m.f, .int .i64 m.v, .int .i64 m.s, .int .i64 m.r.c, .int .i64 m.r.n, .int .i64 m.r.o, .int .i64 m.r.x, .int .i64 m.r.y, .slice m.A m.cl.length m.a, .slice m.B m.vt.length m.b] 28)).heap.size := by simp
  go_wp2_with (fail)
  refine (pickR 12 RD.out (by omega) (by omega) (by omega)).mono ?_
  rintro e Wb ⟨d, d0, d1, rfl, qb, qb0, qb1, hr, hgr⟩
  have RD := Lib.hid hr
  have GR := Lib.hid (grownBy_trans GR.out hgr)
  have K0 := Lib.hid (K0.out.grown hgr (by simp; omega))
  have K1 := Lib.hid (K1.out.grown hgr (by simp; omega))
  have MG := Lib.hid (MG.out.far hgr (fun k hk => by cases hk; omega))
  clear hr hgr l1
  have ld := K1.out.lt
  by_cases h0 : d = 0
  · subst h0
    have HC : ∀ i (hi : i < ([0, 7, 2] : List Int).length), (Wb.alloc (.cells #[.int .i64 0, .int .i64 7, .int .i64 2] 3)).cell? ⟨Wb.heap.size, i, none⟩ = some (.int .i64 (([0, 7, 2] : List Int)[i]'hi)) := lit_cells Wb 3 [0, 7, 2]
    have HCC := Lib.hid HC
    clear HC
    have RD := Lib.hid (RD.out.below ((Below.refl Wb.heap.size Wb).alloc (Nat.le_refl _) (.cells #[.int .i64 0, .int .i64 7, .int .i64 2] 3)))
    have GR := Lib.hid (grownBy_trans GR.out (World.grownBy_alloc Wb (.cells #[.int .i64 0, .int .i64 7, .int .i64 2] 3) (some R)))
    have K0 := Lib.hid (K0.out.alloc (.cells #[.int .i64 0, .int .i64 7, .int .i64 2] 3))
    have K1 := Lib.hid (K1.out.alloc (.cells #[.int .i64 0, .int .i64 7, .int .i64 2] 3))
    have MG := Lib.hid (MG.out.below ((Below.refl _ _).alloc (Nat.le_refl _) (.cells #[.int .i64 0, .int .i64 7, .int .i64 2] 3)))
    have x0 : (Wb.alloc (.cells #[.int .i64 0, .int .i64 7, .int .i64 2] 3)).cell? ⟨Wa.heap.size, 0, none⟩ = some (.int .i64 m.k) := K1.out.cell 0
    have x1 : (Wb.alloc (.cells #[.int .i64 0, .int .i64 7, .int .i64 2] 3)).cell? ⟨Wa.heap.size, 1, none⟩ = some (.int .i64 m.f) := K1.out.cell 1
    have x2 : (Wb.alloc (.cells #[.int .i64 0, .int .i64 7, .int .i64 2] 3)).cell? ⟨Wa.heap.size, 2, none⟩ = some (.int .i64 m.v) := K1.out.cell 2
    have x3 : (Wb.alloc (.cells #[.int .i64 0, .int .i64 7, .int .i64 2] 3)).cell? ⟨Wa.heap.size, 3, none⟩ = some (.int .i64 m.s) := K1.out.cell 3
    have x4 : (Wb.alloc (.cells #[.int .i64 0, .int .i64 7, .int .i64 2] 3)).cell? ⟨Wa.heap.size, 4, none⟩ = some (.int .i64 m.r.c) := K1.out.cell 4
    have x5 : (Wb.alloc (.cells #[.int .i64 0, .int .i64 7, .int .i64 2] 3)).cell? ⟨Wa.heap.size, 5, none⟩ = some (.int .i64 m.r.n) := K1.out.cell 5
    have x6 : (Wb.alloc (.cells #[.int .i64 0, .int .i64 7, .int .i64 2] 3)).cell? ⟨Wa.heap.size, 6, none⟩ = some (.int .i64 m.r.o) := K1.out.cell 6
    have x7 : (Wb.alloc (.cells #[.int .i64 0, .int .i64 7, .int .i64 2] 3)).cell? ⟨Wa.heap.size, 7, none⟩ = some (.int .i64 m.r.x) := K1.out.cell 7
    have x8 : (Wb.alloc (.cells #[.int .i64 0, .int .i64 7, .int .i64 2] 3)).cell? ⟨Wa.heap.size, 8, none⟩ = some (.int .i64 m.r.y) := K1.out.cell 8
    have x9 : (Wb.alloc (.cells #[.int .i64 0, .int .i64 7, .int .i64 2] 3)).cell? ⟨Wa.heap.size, 9, none⟩ = some (.slice m.A m.cl.length m.a) := K1.out.cell 9
    have x10 : (Wb.alloc (.cells #[.int .i64 0, .int .i64 7, .int .i64 2] 3)).cell? ⟨Wa.heap.size, 10, none⟩ = some (.slice m.B m.vt.length m.b) := K1.out.cell 10
    have xf := K1.out.frozen
    have ld := K1.out.lt
    go_wp2_with (fail)
    refine (oneR Wb.heap.size [0, 7, 2] RD.out (by omega) (by decide) (by decide) (by omega) HCC.out).mono ?_
    rintro e Wd ⟨g, rfl, qd, qd0, qd1, hr, hgr⟩
    have RD := Lib.hid hr
    have GR := Lib.hid (grownBy_trans GR.out hgr)
    have K0 := Lib.hid (K0.out.grown hgr (by simp; omega))
    have K1 := Lib.hid (K1.out.grown hgr (by simp; omega))
    have MG := Lib.hid (MG.out.far hgr (fun k hk => by cases hk; omega))
    clear hr hgr ld x0 x1 x2 x3 x4 x5 x6 x7 x8 x9 x10 xf HCC
    have x0 : Wd.cell? ⟨Wa.heap.size, 0, none⟩ = some (.int .i64 m.k) := K1.out.cell 0
    have x1 : Wd.cell? ⟨Wa.heap.size, 1, none⟩ = some (.int .i64 m.f) := K1.out.cell 1
    have x2 : Wd.cell? ⟨Wa.heap.size, 2, none⟩ = some (.int .i64 m.v) := K1.out.cell 2
    have x3 : Wd.cell? ⟨Wa.heap.size, 3, none⟩ = some (.int .i64 m.s) := K1.out.cell 3
    have x4 : Wd.cell? ⟨Wa.heap.size, 4, none⟩ = some (.int .i64 m.r.c) := K1.out.cell 4
    have x5 : Wd.cell? ⟨Wa.heap.size, 5, none⟩ = some (.int .i64 m.r.n) := K1.out.cell 5
    have x6 : Wd.cell? ⟨Wa.heap.size, 6, none⟩ = some (.int .i64 m.r.o) := K1.out.cell 6
    have x7 : Wd.cell? ⟨Wa.heap.size, 7, none⟩ = some (.int .i64 m.r.x) := K1.out.cell 7
    have x8 : Wd.cell? ⟨Wa.heap.size, 8, none⟩ = some (.int .i64 m.r.y) := K1.out.cell 8
    have x9 : Wd.cell? ⟨Wa.heap.size, 9, none⟩ = some (.slice m.A m.cl.length m.a) := K1.out.cell 9
    have x10 : Wd.cell? ⟨Wa.heap.size, 10, none⟩ = some (.slice m.B m.vt.length m.b) := K1.out.cell 10
    have xf := K1.out.frozen
    have ld := K1.out.lt
    have z0 : Wd.cell? ⟨w.heap.size, 0, none⟩ = some (.int .i64 0) := K0.out.cell 0
    have z1 : Wd.cell? ⟨w.heap.size, 1, none⟩ = some (.int .i64 0) := K0.out.cell 1
    have z2 : Wd.cell? ⟨w.heap.size, 2, none⟩ = some (.int .i64 0) := K0.out.cell 2
    have z3 : Wd.cell? ⟨w.heap.size, 3, none⟩ = some (.int .i64 0) := K0.out.cell 3
    have z4 : Wd.cell? ⟨w.heap.size, 4, none⟩ = some (.int .i64 0) := K0.out.cell 4
    have z5 : Wd.cell? ⟨w.heap.size, 5, none⟩ = some (.int .i64 0) := K0.out.cell 5
    have z6 : Wd.cell? ⟨w.heap.size, 6, none⟩ = some (.int .i64 0) := K0.out.cell 6
    have z7 : Wd.cell? ⟨w.heap.size, 7, none⟩ = some (.int .i64 0) := K0.out.cell 7
    have z8 : Wd.cell? ⟨w.heap.size, 8, none⟩ = some (.int .i64 0) := K0.out.cell 8
    have z9 : Wd.cell? ⟨w.heap.size, 9, none⟩ = some (.slice none 0 0) := K0.out.cell 9
    have z10 : Wd.cell? ⟨w.heap.size, 10, none⟩ = some (.slice none 0 0) := K0.out.cell 10
    have zf := K0.out.frozen
    go_wp2
    go_light
    refine bodyPost_ret (v := .agg #[.int .i64 g, .int .i64 m.f, .int .i64 m.v, .int .i64 m.s, .int .i64 m.r.c, .int .i64 m.r.n, .int .i64 m.r.o, .int .i64 m.r.x, .int .i64 m.r.y, .slice m.A m.cl.length m.a, .slice m.B m.vt.length m.b]) (by simp [results, Try.results30, go_sem, z0, z1, z2, z3, z4, z5, z6, z7, z8, z9, z10]) rfl ⟨⟨g, m.f, m.v, m.s, m.r, m.A, m.a, m.cl, m.B, m.b, m.vt⟩, rfl, ?_, ?_⟩
    · have o1 := MG.out.setB K1.out 0 (.int .i64 g)
      have o1 := o1.set (b := w.heap.size) (by omega) 0 (.int .i64 g)
      have o1 := o1.set (b := w.heap.size) (by omega) 1 (.int .i64 m.f)
      have o1 := o1.set (b := w.heap.size) (by omega) 2 (.int .i64 m.v)
      have o1 := o1.set (b := w.heap.size) (by omega) 3 (.int .i64 m.s)
      have o1 := o1.set (b := w.heap.size) (by omega) 4 (.int .i64 m.r.c)
      have o1 := o1.set (b := w.heap.size) (by omega) 5 (.int .i64 m.r.n)
      have o1 := o1.set (b := w.heap.size) (by omega) 6 (.int .i64 m.r.o)
      have o1 := o1.set (b := w.heap.size) (by omega) 7 (.int .i64 m.r.x)
      have o1 := o1.set (b := w.heap.size) (by omega) 8 (.int .i64 m.r.y)
      have o1 := o1.set (b := w.heap.size) (by omega) 9 (.slice m.A m.cl.length m.a)
      have o1 := o1.set (b := w.heap.size) (by omega) 10 (.slice m.B m.vt.length m.b)
      exact MgD.base (m := ⟨g, m.f, m.v, m.s, m.r, m.A, m.a, m.cl, m.B, m.b, m.vt⟩) ⟨o1.nc, o1.nv, o1.n3, o1.oc, o1.ov, o1.oo⟩ (by omega)
    · iterate 11 (refine Drawn.set ?_ hOld.out hRlt _ _ _ (Nat.le_refl _))
      iterate 1 (refine Drawn.set ?_ hOld.out hRlt _ _ _ (by omega))
      exact Drawn.mk (by omega) (by omega) RD.out GR.out
  by_cases h1 : d = 1
  · subst h1
    have HC : ∀ i (hi : i < ([(-1), 4] : List Int).length), (Wb.alloc (.cells #[.int .i64 (-1), .int .i64 4] 3)).cell? ⟨Wb.heap.size, i, none⟩ = some (.int .i64 (([(-1), 4] : List Int)[i]'hi)) := lit_cells Wb 3 [(-1), 4]
    have HCC := Lib.hid HC
    clear HC
    have RD := Lib.hid (RD.out.below ((Below.refl Wb.heap.size Wb).alloc (Nat.le_refl _) (.cells #[.int .i64 (-1), .int .i64 4] 3)))
    have GR := Lib.hid (grownBy_trans GR.out (World.grownBy_alloc Wb (.cells #[.int .i64 (-1), .int .i64 4] 3) (some R)))
    have K0 := Lib.hid (K0.out.alloc (.cells #[.int .i64 (-1), .int .i64 4] 3))
    have K1 := Lib.hid (K1.out.alloc (.cells #[.int .i64 (-1), .int .i64 4] 3))
    have MG := Lib.hid (MG.out.below ((Below.refl _ _).alloc (Nat.le_refl _) (.cells #[.int .i64 (-1), .int .i64 4] 3)))
    have x0 : (Wb.alloc (.cells #[.int .i64 (-1), .int .i64 4] 3)).cell? ⟨Wa.heap.size, 0, none⟩ = some (.int .i64 m.k) := K1.out.cell 0
    have x1 : (Wb.alloc (.cells #[.int .i64 (-1), .int .i64 4] 3)).cell? ⟨Wa.heap.size, 1, none⟩ = some (.int .i64 m.f) := K1.out.cell 1
    have x2 : (Wb.alloc (.cells #[.int .i64 (-1), .int .i64 4] 3)).cell? ⟨Wa.heap.size, 2, none⟩ = some (.int .i64 m.v) := K1.out.cell 2
    have x3 : (Wb.alloc (.cells #[.int .i64 (-1), .int .i64 4] 3)).cell? ⟨Wa.heap.size, 3, none⟩ = some (.int .i64 m.s) := K1.out.cell 3
    have x4 : (Wb.alloc (.cells #[.int .i64 (-1), .int .i64 4] 3)).cell? ⟨Wa.heap.size, 4, none⟩ = some (.int .i64 m.r.c) := K1.out.cell 4
    have x5 : (Wb.alloc (.cells #[.int .i64 (-1), .int .i64 4] 3)).cell? ⟨Wa.heap.size, 5, none⟩ = some (.int .i64 m.r.n) := K1.out.cell 5
    have x6 : (Wb.alloc (.cells #[.int .i64 (-1), .int .i64 4] 3)).cell? ⟨Wa.heap.size, 6, none⟩ = some (.int .i64 m.r.o) := K1.out.cell 6
    have x7 : (Wb.alloc (.cells #[.int .i64 (-1), .int .i64 4] 3)).cell? ⟨Wa.heap.size, 7, none⟩ = some (.int .i64 m.r.x) := K1.out.cell 7
    have x8 : (Wb.alloc (.cells #[.int .i64 (-1), .int .i64 4] 3)).cell? ⟨Wa.heap.size, 8, none⟩ = some (.int .i64 m.r.y) := K1.out.cell 8
    have x9 : (Wb.alloc (.cells #[.int .i64 (-1), .int .i64 4] 3)).cell? ⟨Wa.heap.size, 9, none⟩ = some (.slice m.A m.cl.length m.a) := K1.out.cell 9
    have x10 : (Wb.alloc (.cells #[.int .i64 (-1), .int .i64 4] 3)).cell? ⟨Wa.heap.size, 10, none⟩ = some (.slice m.B m.vt.length m.b) := K1.out.cell 10
    have xf := K1.out.frozen
    have ld := K1.out.lt
    go_wp2_with (fail)
    refine (oneR Wb.heap.size [(-1), 4] RD.out (by omega) (by decide) (by decide) (by omega) HCC.out).mono ?_
    rintro e Wd ⟨g, rfl, qd, qd0, qd1, hr, hgr⟩
    have RD := Lib.hid hr
    have GR := Lib.hid (grownBy_trans GR.out hgr)
    have K0 := Lib.hid (K0.out.grown hgr (by simp; omega))
    have K1 := Lib.hid (K1.out.grown hgr (by simp; omega))
    have MG := Lib.hid (MG.out.far hgr (fun k hk => by cases hk; omega))
    clear hr hgr ld x0 x1 x2 x3 x4 x5 x6 x7 x8 x9 x10 xf HCC
    have x0 : Wd.cell? ⟨Wa.heap.size, 0, none⟩ = some (.int .i64 m.k) := K1.out.cell 0
    have x1 : Wd.cell? ⟨Wa.heap.size, 1, none⟩ = some (.int .i64 m.f) := K1.out.cell 1
    have x2 : Wd.cell? ⟨Wa.heap.size, 2, none⟩ = some (.int .i64 m.v) := K1.out.cell 2
    have x3 : Wd.cell? ⟨Wa.heap.size, 3, none⟩ = some (.int .i64 m.s) := K1.out.cell 3
    have x4 : Wd.cell? ⟨Wa.heap.size, 4, none⟩ = some (.int .i64 m.r.c) := K1.out.cell 4
    have x5 : Wd.cell? ⟨Wa.heap.size, 5, none⟩ = some (.int .i64 m.r.n) := K1.out.cell 5
    have x6 : Wd.cell? ⟨Wa.heap.size, 6, none⟩ = some (.int .i64 m.r.o) := K1.out.cell 6
    have x7 : Wd.cell? ⟨Wa.heap.size, 7, none⟩ = some (.int .i64 m.r.x) := K1.out.cell 7
    have x8 : Wd.cell? ⟨Wa.heap.size, 8, none⟩ = some (.int .i64 m.r.y) := K1.out.cell 8
    have x9 : Wd.cell? ⟨Wa.heap.size, 9, none⟩ = some (.slice m.A m.cl.length m.a) := K1.out.cell 9
    have x10 : Wd.cell? ⟨Wa.heap.size, 10, none⟩ = some (.slice m.B m.vt.length m.b) := K1.out.cell 10
    have xf := K1.out.frozen
    have ld := K1.out.lt
    have z0 : Wd.cell? ⟨w.heap.size, 0, none⟩ = some (.int .i64 0) := K0.out.cell 0
    have z1 : Wd.cell? ⟨w.heap.size, 1, none⟩ = some (.int .i64 0) := K0.out.cell 1
    have z2 : Wd.cell? ⟨w.heap.size, 2, none⟩ = some (.int .i64 0) := K0.out.cell 2
    have z3 : Wd.cell? ⟨w.heap.size, 3, none⟩ = some (.int .i64 0) := K0.out.cell 3
    have z4 : Wd.cell? ⟨w.heap.size, 4, none⟩ = some (.int .i64 0) := K0.out.cell 4
    have z5 : Wd.cell? ⟨w.heap.size, 5, none⟩ = some (.int .i64 0) := K0.out.cell 5
    have z6 : Wd.cell? ⟨w.heap.size, 6, none⟩ = some (.int .i64 0) := K0.out.cell 6
    have z7 : Wd.cell? ⟨w.heap.size, 7, none⟩ = some (.int .i64 0) := K0.out.cell 7
    have z8 : Wd.cell? ⟨w.heap.size, 8, none⟩ = some (.int .i64 0) := K0.out.cell 8
    have z9 : Wd.cell? ⟨w.heap.size, 9, none⟩ = some (.slice none 0 0) := K0.out.cell 9
    have z10 : Wd.cell? ⟨w.heap.size, 10, none⟩ = some (.slice none 0 0) := K0.out.cell 10
    have zf := K0.out.frozen
    go_wp2
    go_light
    refine bodyPost_ret (v := .agg #[.int .i64 m.k, .int .i64 g, .int .i64 m.v, .int .i64 m.s, .int .i64 m.r.c, .int .i64 m.r.n, .int .i64 m.r.o, .int .i64 m.r.x, .int .i64 m.r.y, .slice m.A m.cl.length m.a, .slice m.B m.vt.length m.b]) (by simp [results, Try.results30, go_sem, z0, z1, z2, z3, z4, z5, z6, z7, z8, z9, z10]) rfl ⟨⟨m.k, g, m.v, m.s, m.r, m.A, m.a, m.cl, m.B, m.b, m.vt⟩, rfl, ?_, ?_⟩
    · have o1 := MG.out.setB K1.out 1 (.int .i64 g)
      have o1 := o1.set (b := w.heap.size) (by omega) 0 (.int .i64 m.k)
      have o1 := o1.set (b := w.heap.size) (by omega) 1 (.int .i64 g)
      have o1 := o1.set (b := w.heap.size) (by omega) 2 (.int .i64 m.v)
      have o1 := o1.set (b := w.heap.size) (by omega) 3 (.int .i64 m.s)
      have o1 := o1.set (b := w.heap.size) (by omega) 4 (.int .i64 m.r.c)
      have o1 := o1.set (b := w.heap.size) (by omega) 5 (.int .i64 m.r.n)
      have o1 := o1.set (b := w.heap.size) (by omega) 6 (.int .i64 m.r.o)
      have o1 := o1.set (b := w.heap.size) (by omega) 7 (.int .i64 m.r.x)
      have o1 := o1.set (b := w.heap.size) (by omega) 8 (.int .i64 m.r.y)
      have o1 := o1.set (b := w.heap.size) (by omega) 9 (.slice m.A m.cl.length m.a)
      have o1 := o1.set (b := w.heap.size) (by omega) 10 (.slice m.B m.vt.length m.b)
      exact MgD.base (m := ⟨m.k, g, m.v, m.s, m.r, m.A, m.a, m.cl, m.B, m.b, m.vt⟩) ⟨o1.nc, o1.nv, o1.n3, o1.oc, o1.ov, o1.oo⟩ (by omega)
    · iterate 11 (refine Drawn.set ?_ hOld.out hRlt _ _ _ (Nat.le_refl _))
      iterate 1 (refine Drawn.set ?_ hOld.out hRlt _ _ _ (by omega))
      exact Drawn.mk (by omega) (by omega) RD.out GR.out
  by_cases h2 : d = 2
  · subst h2
    have HC : ∀ i (hi : i < ([(-1), 7] : List Int).length), (Wb.alloc (.cells #[.int .i64 (-1), .int .i64 7] 3)).cell? ⟨Wb.heap.size, i, none⟩ = some (.int .i64 (([(-1), 7] : List Int)[i]'hi)) := lit_cells Wb 3 [(-1), 7]
    have HCC := Lib.hid HC
    clear HC
    have RD := Lib.hid (RD.out.below ((Below.refl Wb.heap.size Wb).alloc (Nat.le_refl _) (.cells #[.int .i64 (-1), .int .i64 7] 3)))
    have GR := Lib.hid (grownBy_trans GR.out (World.grownBy_alloc Wb (.cells #[.int .i64 (-1), .int .i64 7] 3) (some R)))
    have K0 := Lib.hid (K0.out.alloc (.cells #[.int .i64 (-1), .int .i64 7] 3))
    have K1 := Lib.hid (K1.out.alloc (.cells #[.int .i64 (-1), .int .i64 7] 3))
    have MG := Lib.hid (MG.out.below ((Below.refl _ _).alloc (Nat.le_refl _) (.cells #[.int .i64 (-1), .int .i64 7] 3)))
    have x0 : (Wb.alloc (.cells #[.int .i64 (-1), .int .i64 7] 3)).cell? ⟨Wa.heap.size, 0, none⟩ = some (.int .i64 m.k) := K1.out.cell 0
    have x1 : (Wb.alloc (.cells #[.int .i64 (-1), .int .i64 7] 3)).cell? ⟨Wa.heap.size, 1, none⟩ = some (.int .i64 m.f) := K1.out.cell 1
    have x2 : (Wb.alloc (.cells #[.int .i64 (-1), .int .i64 7] 3)).cell? ⟨Wa.heap.size, 2, none⟩ = some (.int .i64 m.v) := K1.out.cell 2
    have x3 : (Wb.alloc (.cells #[.int .i64 (-1), .int .i64 7] 3)).cell? ⟨Wa.heap.size, 3, none⟩ = some (.int .i64 m.s) := K1.out.cell 3
    have x4 : (Wb.alloc (.cells #[.int .i64 (-1), .int .i64 7] 3)).cell? ⟨Wa.heap.size, 4, none⟩ = some (.int .i64 m.r.c) := K1.out.cell 4
    have x5 : (Wb.alloc (.cells #[.int .i64 (-1), .int .i64 7] 3)).cell? ⟨Wa.heap.size, 5, none⟩ = some (.int .i64 m.r.n) := K1.out.cell 5
    have x6 : (Wb.alloc (.cells #[.int .i64 (-1), .int .i64 7] 3)).cell? ⟨Wa.heap.size, 6, none⟩ = some (.int .i64 m.r.o) := K1.out.cell 6
    have x7 : (Wb.alloc (.cells #[.int .i64 (-1), .int .i64 7] 3)).cell? ⟨Wa.heap.size, 7, none⟩ = some (.int .i64 m.r.x) := K1.out.cell 7
    have x8 : (Wb.alloc (.cells #[.int .i64 (-1), .int .i64 7] 3)).cell? ⟨Wa.heap.size, 8, none⟩ = some (.int .i64 m.r.y) := K1.out.cell 8
    have x9 : (Wb.alloc (.cells #[.int .i64 (-1), .int .i64 7] 3)).cell? ⟨Wa.heap.size, 9, none⟩ = some (.slice m.A m.cl.length m.a) := K1.out.cell 9
    have x10 : (Wb.alloc (.cells #[.int .i64 (-1), .int .i64 7] 3)).cell? ⟨Wa.heap.size, 10, none⟩ = some (.slice m.B m.vt.length m.b) := K1.out.cell 10
    have xf := K1.out.frozen
    have ld := K1.out.lt
    go_wp2_with (fail)
    refine (oneR Wb.heap.size [(-1), 7] RD.out (by omega) (by decide) (by decide) (by omega) HCC.out).mono ?_
    rintro e Wd ⟨g, rfl, qd, qd0, qd1, hr, hgr⟩
    have RD := Lib.hid hr
    have GR := Lib.hid (grownBy_trans GR.out hgr)
    have K0 := Lib.hid (K0.out.grown hgr (by simp; omega))
    have K1 := Lib.hid (K1.out.grown hgr (by simp; omega))
    have MG := Lib.hid (MG.out.far hgr (fun k hk => by cases hk; omega))
    clear hr hgr ld x0 x1 x2 x3 x4 x5 x6 x7 x8 x9 x10 xf HCC
    have x0 : Wd.cell? ⟨Wa.heap.size, 0, none⟩ = some (.int .i64 m.k) := K1.out.cell 0
    have x1 : Wd.cell? ⟨Wa.heap.size, 1, none⟩ = some (.int .i64 m.f) := K1.out.cell 1
    have x2 : Wd.cell? ⟨Wa.heap.size, 2, none⟩ = some (.int .i64 m.v) := K1.out.cell 2
    have x3 : Wd.cell? ⟨Wa.heap.size, 3, none⟩ = some (.int .i64 m.s) := K1.out.cell 3
    have x4 : Wd.cell? ⟨Wa.heap.size, 4, none⟩ = some (.int .i64 m.r.c) := K1.out.cell 4
    have x5 : Wd.cell? ⟨Wa.heap.size, 5, none⟩ = some (.int .i64 m.r.n) := K1.out.cell 5
    have x6 : Wd.cell? ⟨Wa.heap.size, 6, none⟩ = some (.int .i64 m.r.o) := K1.out.cell 6
    have x7 : Wd.cell? ⟨Wa.heap.size, 7, none⟩ = some (.int .i64 m.r.x) := K1.out.cell 7
    have x8 : Wd.cell? ⟨Wa.heap.size, 8, none⟩ = some (.int .i64 m.r.y) := K1.out.cell 8
    have x9 : Wd.cell? ⟨Wa.heap.size, 9, none⟩ = some (.slice m.A m.cl.length m.a) := K1.out.cell 9
    have x10 : Wd.cell? ⟨Wa.heap.size, 10, none⟩ = some (.slice m.B m.vt.length m.b) := K1.out.cell 10
    have xf := K1.out.frozen
    have ld := K1.out.lt
    have z0 : Wd.cell? ⟨w.heap.size, 0, none⟩ = some (.int .i64 0) := K0.out.cell 0
    have z1 : Wd.cell? ⟨w.heap.size, 1, none⟩ = some (.int .i64 0) := K0.out.cell 1
    have z2 : Wd.cell? ⟨w.heap.size, 2, none⟩ = some (.int .i64 0) := K0.out.cell 2
    have z3 : Wd.cell? ⟨w.heap.size, 3, none⟩ = some (.int .i64 0) := K0.out.cell 3
    have z4 : Wd.cell? ⟨w.heap.size, 4, none⟩ = some (.int .i64 0) := K0.out.cell 4
    have z5 : Wd.cell? ⟨w.heap.size, 5, none⟩ = some (.int .i64 0) := K0.out.cell 5
    have z6 : Wd.cell? ⟨w.heap.size, 6, none⟩ = some (.int .i64 0) := K0.out.cell 6
    have z7 : Wd.cell? ⟨w.heap.size, 7, none⟩ = some (.int .i64 0) := K0.out.cell 7
    have z8 : Wd.cell? ⟨w.heap.size, 8, none⟩ = some (.int .i64 0) := K0.out.cell 8
    have z9 : Wd.cell? ⟨w.heap.size, 9, none⟩ = some (.slice none 0 0) := K0.out.cell 9
    have z10 : Wd.cell? ⟨w.heap.size, 10, none⟩ = some (.slice none 0 0) := K0.out.cell 10
    have zf := K0.out.frozen
    go_wp2
    go_light
    refine bodyPost_ret (v := .agg #[.int .i64 m.k, .int .i64 m.f, .int .i64 g, .int .i64 m.s, .int .i64 m.r.c, .int .i64 m.r.n, .int .i64 m.r.o, .int .i64 m.r.x, .int .i64 m.r.y, .slice m.A m.cl.length m.a, .slice m.B m.vt.length m.b]) (by simp [results, Try.results30, go_sem, z0, z1, z2, z3, z4, z5, z6, z7, z8, z9, z10]) rfl ⟨⟨m.k, m.f, g, m.s, m.r, m.A, m.a, m.cl, m.B, m.b, m.vt⟩, rfl, ?_, ?_⟩
    · have o1 := MG.out.setB K1.out 2 (.int .i64 g)
      have o1 := o1.set (b := w.heap.size) (by omega) 0 (.int .i64 m.k)
      have o1 := o1.set (b := w.heap.size) (by omega) 1 (.int .i64 m.f)
      have o1 := o1.set (b := w.heap.size) (by omega) 2 (.int .i64 g)
      have o1 := o1.set (b := w.heap.size) (by omega) 3 (.int .i64 m.s)
      have o1 := o1.set (b := w.heap.size) (by omega) 4 (.int .i64 m.r.c)
      have o1 := o1.set (b := w.heap.size) (by omega) 5 (.int .i64 m.r.n)
      have o1 := o1.set (b := w.heap.size) (by omega) 6 (.int .i64 m.r.o)
      have o1 := o1.set (b := w.heap.size) (by omega) 7 (.int .i64 m.r.x)
      have o1 := o1.set (b := w.heap.size) (by omega) 8 (.int .i64 m.r.y)
      have o1 := o1.set (b := w.heap.size) (by omega) 9 (.slice m.A m.cl.length m.a)
      have o1 := o1.set (b := w.heap.size) (by omega) 10 (.slice m.B m.vt.length m.b)
      exact MgD.base (m := ⟨m.k, m.f, g, m.s, m.r, m.A, m.a, m.cl, m.B, m.b, m.vt⟩) ⟨o1.nc, o1.nv, o1.n3, o1.oc, o1.ov, o1.oo⟩ (by omega)
    · iterate 11 (refine Drawn.set ?_ hOld.out hRlt _ _ _ (Nat.le_refl _))
      iterate 1 (refine Drawn.set ?_ hOld.out hRlt _ _ _ (by omega))
      exact Drawn.mk (by omega) (by omega) RD.out GR.out
  by_cases h3 : d = 3
  · subst h3
    have HC : ∀ i (hi : i < ([0, 6, 1] : List Int).length), (Wb.alloc (.cells #[.int .i64 0, .int .i64 6, .int .i64 1] 3)).cell? ⟨Wb.heap.size, i, none⟩ = some (.int .i64 (([0, 6, 1] : List Int)[i]'hi)) := lit_cells Wb 3 [0, 6, 1]
    have HCC := Lib.hid HC
    clear HC
    have RD := Lib.hid (RD.out.below ((Below.refl Wb.heap.size Wb).alloc (Nat.le_refl _) (.cells #[.int .i64 0, .int .i64 6, .int .i64 1] 3)))
    have GR := Lib.hid (grownBy_trans GR.out (World.grownBy_alloc Wb (.cells #[.int .i64 0, .int .i64 6, .int .i64 1] 3) (some R)))
    have K0 := Lib.hid (K0.out.alloc (.cells #[.int .i64 0, .int .i64 6, .int .i64 1] 3))
    have K1 := Lib.hid (K1.out.alloc (.cells #[.int .i64 0, .int .i64 6, .int .i64 1] 3))
    have MG := Lib.hid (MG.out.below ((Below.refl _ _).alloc (Nat.le_refl _) (.cells #[.int .i64 0, .int .i64 6, .int .i64 1] 3)))
    have x0 : (Wb.alloc (.cells #[.int .i64 0, .int .i64 6, .int .i64 1] 3)).cell? ⟨Wa.heap.size, 0, none⟩ = some (.int .i64 m.k) := K1.out.cell 0
    have x1 : (Wb.alloc (.cells #[.int .i64 0, .int .i64 6, .int .i64 1] 3)).cell? ⟨Wa.heap.size, 1, none⟩ = some (.int .i64 m.f) := K1.out.cell 1
    have x2 : (Wb.alloc (.cells #[.int .i64 0, .int .i64 6, .int .i64 1] 3)).cell? ⟨Wa.heap.size, 2, none⟩ = some (.int .i64 m.v) := K1.out.cell 2
    have x3 : (Wb.alloc (.cells #[.int .i64 0, .int .i64 6, .int .i64 1] 3)).cell? ⟨Wa.heap.size, 3, none⟩ = some (.int .i64 m.s) := K1.out.cell 3
    have x4 : (Wb.alloc (.cells #[.int .i64 0, .int .i64 6, .int .i64 1] 3)).cell? ⟨Wa.heap.size, 4, none⟩ = some (.int .i64 m.r.c) := K1.out.cell 4
    have x5 : (Wb.alloc (.cells #[.int .i64 0, .int .i64 6, .int .i64 1] 3)).cell? ⟨Wa.heap.size, 5, none⟩ = some (.int .i64 m.r.n) := K1.out.cell 5
    have x6 : (Wb.alloc (.cells #[.int .i64 0, .int .i64 6, .int .i64 1] 3)).cell? ⟨Wa.heap.size, 6, none⟩ = some (.int .i64 m.r.o) := K1.out.cell 6
    have x7 : (Wb.alloc (.cells #[.int .i64 0, .int .i64 6, .int .i64 1] 3)).cell? ⟨Wa.heap.size, 7, none⟩ = some (.int .i64 m.r.x) := K1.out.cell 7
    have x8 : (Wb.alloc (.cells #[.int .i64 0, .int .i64 6, .int .i64 1] 3)).cell? ⟨Wa.heap.size, 8, none⟩ = some (.int .i64 m.r.y) := K1.out.cell 8
    have x9 : (Wb.alloc (.cells #[.int .i64 0, .int .i64 6, .int .i64 1] 3)).cell? ⟨Wa.heap.size, 9, none⟩ = some (.slice m.A m.cl.length m.a) := K1.out.cell 9
    have x10 : (Wb.alloc (.cells #[.int .i64 0, .int .i64 6, .int .i64 1] 3)).cell? ⟨Wa.heap.size, 10, none⟩ = some (.slice m.B m.vt.length m.b) := K1.out.cell 10
    have xf := K1.out.frozen
    have ld := K1.out.lt
    go_wp2_with (fail)
    refine (oneR Wb.heap.size [0, 6, 1] RD.out (by omega) (by decide) (by decide) (by omega) HCC.out).mono ?_
    rintro e Wd ⟨g, rfl, qd, qd0, qd1, hr, hgr⟩
    have RD := Lib.hid hr
    have GR := Lib.hid (grownBy_trans GR.out hgr)
    have K0 := Lib.hid (K0.out.grown hgr (by simp; omega))
    have K1 := Lib.hid (K1.out.grown hgr (by simp; omega))
    have MG := Lib.hid (MG.out.far hgr (fun k hk => by cases hk; omega))
    clear hr hgr ld x0 x1 x2 x3 x4 x5 x6 x7 x8 x9 x10 xf HCC
    have x0 : Wd.cell? ⟨Wa.heap.size, 0, none⟩ = some (.int .i64 m.k) := K1.out.cell 0
    have x1 : Wd.cell? ⟨Wa.heap.size, 1, none⟩ = some (.int .i64 m.f) := K1.out.cell 1
    have x2 : Wd.cell? ⟨Wa.heap.size, 2, none⟩ = some (.int .i64 m.v) := K1.out.cell 2
    have x3 : Wd.cell? ⟨Wa.heap.size, 3, none⟩ = some (.int .i64 m.s) := K1.out.cell 3
    have x4 : Wd.cell? ⟨Wa.heap.size, 4, none⟩ = some (.int .i64 m.r.c) := K1.out.cell 4
    have x5 : Wd.cell? ⟨Wa.heap.size, 5, none⟩ = some (.int .i64 m.r.n) := K1.out.cell 5
    have x6 : Wd.cell? ⟨Wa.heap.size, 6, none⟩ = some (.int .i64 m.r.o) := K1.out.cell 6
    have x7 : Wd.cell? ⟨Wa.heap.size, 7, none⟩ = some (.int .i64 m.r.x) := K1.out.cell 7
    have x8 : Wd.cell? ⟨Wa.heap.size, 8, none⟩ = some (.int .i64 m.r.y) := K1.out.cell 8
    have x9 : Wd.cell? ⟨Wa.heap.size, 9, none⟩ = some (.slice m.A m.cl.length m.a) := K1.out.cell 9
    have x10 : Wd.cell? ⟨Wa.heap.size, 10, none⟩ = some (.slice m.B m.vt.length m.b) := K1.out.cell 10
    have xf := K1.out.frozen
    have ld := K1.out.lt
    have z0 : Wd.cell? ⟨w.heap.size, 0, none⟩ = some (.int .i64 0) := K0.out.cell 0
    have z1 : Wd.cell? ⟨w.heap.size, 1, none⟩ = some (.int .i64 0) := K0.out.cell 1
    have z2 : Wd.cell? ⟨w.heap.size, 2, none⟩ = some (.int .i64 0) := K0.out.cell 2
    have z3 : Wd.cell? ⟨w.heap.size, 3, none⟩ = some (.int .i64 0) := K0.out.cell 3
    have z4 : Wd.cell? ⟨w.heap.size, 4, none⟩ = some (.int .i64 0) := K0.out.cell 4
    have z5 : Wd.cell? ⟨w.heap.size, 5, none⟩ = some (.int .i64 0) := K0.out.cell 5
    have z6 : Wd.cell? ⟨w.heap.size, 6, none⟩ = some (.int .i64 0) := K0.out.cell 6
    have z7 : Wd.cell? ⟨w.heap.size, 7, none⟩ = some (.int .i64 0) := K0.out.cell 7
    have z8 : Wd.cell? ⟨w.heap.size, 8, none⟩ = some (.int .i64 0) := K0.out.cell 8
    have z9 : Wd.cell? ⟨w.heap.size, 9, none⟩ = some (.slice none 0 0) := K0.out.cell 9
    have z10 : Wd.cell? ⟨w.heap.size, 10, none⟩ = some (.slice none 0 0) := K0.out.cell 10
    have zf := K0.out.frozen
    go_wp2
    go_light
    refine bodyPost_ret (v := .agg #[.int .i64 m.k, .int .i64 m.f, .int .i64 m.v, .int .i64 g, .int .i64 m.r.c, .int .i64 m.r.n, .int .i64 m.r.o, .int .i64 m.r.x, .int .i64 m.r.y, .slice m.A m.cl.length m.a, .slice m.B m.vt.length m.b]) (by simp [results, Try.results30, go_sem, z0, z1, z2, z3, z4, z5, z6, z7, z8, z9, z10]) rfl ⟨⟨m.k, m.f, m.v, g, m.r, m.A, m.a, m.cl, m.B, m.b, m.vt⟩, rfl, ?_, ?_⟩
    · have o1 := MG.out.setB K1.out 3 (.int .i64 g)
      have o1 := o1.set (b := w.heap.size) (by omega) 0 (.int .i64 m.k)
      have o1 := o1.set (b := w.heap.size) (by omega) 1 (.int .i64 m.f)
      have o1 := o1.set (b := w.heap.size) (by omega) 2 (.int .i64 m.v)
      have o1 := o1.set (b := w.heap.size) (by omega) 3 (.int .i64 g)
      have o1 := o1.set (b := w.heap.size) (by omega) 4 (.int .i64 m.r.c)
      have o1 := o1.set (b := w.heap.size) (by omega) 5 (.int .i64 m.r.n)
      have o1 := o1.set (b := w.heap.size) (by omega) 6 (.int .i64 m.r.o)
      have o1 := o1.set (b := w.heap.size) (by omega) 7 (.int .i64 m.r.x)
      have o1 := o1.set (b := w.heap.size) (by omega) 8 (.int .i64 m.r.y)
      have o1 := o1.set (b := w.heap.size) (by omega) 9 (.slice m.A m.cl.length m.a)
      have o1 := o1.set (b := w.heap.size) (by omega) 10 (.slice m.B m.vt.length m.b)
      exact MgD.base (m := ⟨m.k, m.f, m.v, g, m.r, m.A, m.a, m.cl, m.B, m.b, m.vt⟩) ⟨o1.nc, o1.nv, o1.n3, o1.oc, o1.ov, o1.oo⟩ (by omega)
    · iterate 11 (refine Drawn.set ?_ hOld.out hRlt _ _ _ (Nat.le_refl _))
      iterate 1 (refine Drawn.set ?_ hOld.out hRlt _ _ _ (by omega))
      exact Drawn.mk (by omega) (by omega) RD.out GR.out
  by_cases h4 : d = 4
  · subst h4
    go_wp2_with (fail)
    refine wp_region_held_drew (S := fun _ => True) (by kernel_rfl) trivial (fun hHeld => ?_)
    refine takeD 0 34 (v := ?_) rfl rfl (by kernel_rfl) (by kernel_rfl) (by kernel_rfl) (fun _ _ _ h => h) (Or.inl ⟨by rfl, ?_⟩) (by assumption) ?_
    rotate_left
    · intro w1 hSw; go_simp; (try with_reducible rfl)
    (try simp only [Act.put, List.setIfInBounds_toArray, List.set_cons_zero, List.set_cons_succ])
    refine takeD 2 36 (v := ?_) rfl rfl (by kernel_rfl) (by kernel_rfl) (by kernel_rfl) (fun _ _ _ h => h) (Or.inl ⟨by rfl, ?_⟩) (by assumption) ?_
    rotate_left
    · intro w1 hSw; go_simp; (try with_reducible rfl)
    (try simp only [Act.put, List.setIfInBounds_toArray, List.set_cons_zero, List.set_cons_succ])
    refine wpAnyH_ready (rs := [1, 3]) (by kernel_rfl) (by simp) ?_
    refine AllReadyH.cons rfl (fun K hK => ?_) (AllReadyH.cons rfl (fun K hK => ?_) AllReadyH.nil)
    · have x9 := (K1.out.cell 9).trans (show _ = some (.slice m.A m.cl.length m.a) from rfl)
      go_simp
      refine hK.out _ _ trivial (fun _ => ?_)
      clear x9
      clear hK K
      (try simp only [Act.put, List.setIfInBounds_toArray, List.set_cons_zero, List.set_cons_succ])
      refine wpAnyH_ready (rs := [3]) (by kernel_rfl) (by simp) ?_
      refine AllReadyH.cons rfl (fun K hK => ?_) AllReadyH.nil
      · go_simp
        refine (l20Claim (RD.out.below (Below.refl _ _).drew) (by omega)).mono ?_
        rintro e Wd ⟨y, rfl, qd, qd0, qd1, hr, hgr⟩
        have RD := Lib.hid hr
        have GR := Lib.hid (grownBy_trans GR.out (grownBy_trans (Below.grownBy (Below.refl _ _).drew _) hgr))
        have hgr' := grownBy_trans (Below.grownBy (w := Wb) (Below.refl _ _).drew (some R)) hgr
        have K0 := Lib.hid (K0.out.grown hgr' (by simp; omega))
        have K1 := Lib.hid (K1.out.grown hgr' (by simp; omega))
        have MG := Lib.hid (MG.out.far hgr' (fun k hk => by cases hk; omega))
        clear hr hgr hgr'
        refine hK.out _ _ trivial (fun _ => ?_)
        clear hK K
        (try simp only [Act.put, List.setIfInBounds_toArray, List.set_cons_zero, List.set_cons_succ])
        refine wpAnyH_ready (rs := [4]) (by kernel_rfl) (by simp) ?_
        refine AllReadyH.cons rfl (fun K hK => ?_) AllReadyH.nil
        · go_simp
          have RD := Lib.hid (RD.out.below ((Below.refl Wd.heap.size Wd).alloc (Nat.le_refl _) (.cells #[.int .i64 y.s, .int .i64 y.v, .int .i64 y.r.c, .int .i64 y.r.n, .int .i64 y.r.o, .int .i64 y.r.x, .int .i64 y.r.y] 60)))
          have GR := Lib.hid (grownBy_trans GR.out (World.grownBy_alloc Wd (.cells #[.int .i64 y.s, .int .i64 y.v, .int .i64 y.r.c, .int .i64 y.r.n, .int .i64 y.r.o, .int .i64 y.r.x, .int .i64 y.r.y] 60) (some R)))
          have K0 := Lib.hid (K0.out.alloc (.cells #[.int .i64 y.s, .int .i64 y.v, .int .i64 y.r.c, .int .i64 y.r.n, .int .i64 y.r.o, .int .i64 y.r.x, .int .i64 y.r.y] 60))
          have K1 := Lib.hid (K1.out.alloc (.cells #[.int .i64 y.s, .int .i64 y.v, .int .i64 y.r.c, .int .i64 y.r.n, .int .i64 y.r.o, .int .i64 y.r.x, .int .i64 y.r.y] 60))
          have MG := Lib.hid (MG.out.below ((Below.refl _ _).alloc (Nat.le_refl _) (.cells #[.int .i64 y.s, .int .i64 y.v, .int .i64 y.r.c, .int .i64 y.r.n, .int .i64 y.r.o, .int .i64 y.r.x, .int .i64 y.r.y] 60)))
          refine hK.out _ _ trivial (fun _ => ?_)
          clear hK K
          (try simp only [Act.put, List.setIfInBounds_toArray, List.set_cons_zero, List.set_cons_succ])
          have hnc : m.cl.length ≤ 3 := hl3
          have hsz := GR.out.size
          refine wpAnyH_ready (rs := [5]) (by kernel_rfl) (by simp) ?_
          refine AllReadyH.cons rfl (fun K hK => ?_) AllReadyH.nil
          refine step_append_own (by rfl) _ _ 25 (by rfl) (w.heap.size + 1) 60 i0 (.agg #[.int .i64 0, .int .i64 0, .int .i64 0, .int .i64 0, .int .i64 0, .int .i64 0, .int .i64 0]) 7 56 Try.underlying25 I1.out I2.out I3.out I4.out (by rfl) (by omega) (.slice m.A m.cl.length m.a) m.cl.length (m.cl.flatMap Cl.cells) (by rfl) MG.out.oc ⟨Wd.heap.size, 0, none⟩ 1 1 y.cells (by rfl) (by rfl) (row_cells Wd 60 #[.int .i64 y.s, .int .i64 y.v, .int .i64 y.r.c, .int .i64 y.r.n, .int .i64 y.r.o, .int .i64 y.r.x, .int .i64 y.r.y] y.cells rfl) (claim_one y) (by unfold maxLen; omega) (by omega) (by have := K0.out.lt; omega) ?_
          intro v' We ho hg _
          obtain ⟨B', a', hv', hm'⟩ := own_form ho
          subst hv'
          have MGc := MG
          have RD := Lib.hid (RD.out.row hg hRlt hOld.out (fun k hk => by have := (own_block_ge MGc.out.oc k hk).1; omega))
          have GR := Lib.hid (grown_row GR.out hg (fun k hk => by have := (own_block_ge MGc.out.oc k hk).1; omega))
          have K0 := Lib.hid (K0.out.grown hg (fun e => own_ne MGc.out.oc K0.out (by decide) e.symm))
          have K1 := Lib.hid (K1.out.grown hg (fun e => own_ne MGc.out.oc K1.out (by decide) e.symm))
          have MN : Hid (MgD We (w.heap.size + 1) ⟨m.k, m.f, m.v, m.s, m.r, B', a', m.cl ++ [y], m.B, m.b, m.vt⟩) := by
            have hne : ∀ x, (Value.slice m.B m.vt.length m.b).ownBlock = some x → (Value.slice m.A m.cl.length m.a).ownBlock ≠ some x := own_row_ne MGc.out.ov MGc.out.oc (by decide)
            refine ⟨by have := hl3; simp; omega, MGc.out.nv, MGc.out.n3, by rw [List.flatMap_append, List.length_append]; simpa using ho, MGc.out.ov.kept hg ?_, fun v hv => World.ownsRow.kept (MGc.out.oo v hv) hg ?_⟩
            · rcases hq : (Value.slice m.B m.vt.length m.b).ownBlock with _ | x
              · exact .inl rfl
              · exact .inr fun e => hne x hq e.symm
            · rcases hq : (Value.slice v.A v.cl.length v.c).ownBlock with _ | x
              · exact .inl rfl
              · exact .inr fun e => SP.out v hv x e.symm hq
          clear ho hg MG MGc ld
          refine hK.out _ _ trivial (fun _ => ?_)
          clear hK K
          (try simp only [Act.put, List.setIfInBounds_toArray, List.set_cons_zero, List.set_cons_succ])
          refine takeD 6 40 (v := ?_) rfl rfl (by kernel_rfl) (by kernel_rfl) (by kernel_rfl) (fun _ _ _ h => h) (Or.inl ⟨by rfl, ?_⟩) (by assumption) ?_
          rotate_left
          · intro w1 hSw; go_simp; (try with_reducible rfl)
          (try simp only [Act.put, List.setIfInBounds_toArray, List.set_cons_zero, List.set_cons_succ])
          have x0 : We.cell? ⟨Wa.heap.size, 0, none⟩ = some (.int .i64 m.k) := K1.out.cell 0
          have x1 : We.cell? ⟨Wa.heap.size, 1, none⟩ = some (.int .i64 m.f) := K1.out.cell 1
          have x2 : We.cell? ⟨Wa.heap.size, 2, none⟩ = some (.int .i64 m.v) := K1.out.cell 2
          have x3 : We.cell? ⟨Wa.heap.size, 3, none⟩ = some (.int .i64 m.s) := K1.out.cell 3
          have x4 : We.cell? ⟨Wa.heap.size, 4, none⟩ = some (.int .i64 m.r.c) := K1.out.cell 4
          have x5 : We.cell? ⟨Wa.heap.size, 5, none⟩ = some (.int .i64 m.r.n) := K1.out.cell 5
          have x6 : We.cell? ⟨Wa.heap.size, 6, none⟩ = some (.int .i64 m.r.o) := K1.out.cell 6
          have x7 : We.cell? ⟨Wa.heap.size, 7, none⟩ = some (.int .i64 m.r.x) := K1.out.cell 7
          have x8 : We.cell? ⟨Wa.heap.size, 8, none⟩ = some (.int .i64 m.r.y) := K1.out.cell 8
          have x9 : We.cell? ⟨Wa.heap.size, 9, none⟩ = some (.slice m.A m.cl.length m.a) := K1.out.cell 9
          have x10 : We.cell? ⟨Wa.heap.size, 10, none⟩ = some (.slice m.B m.vt.length m.b) := K1.out.cell 10
          have xf := K1.out.frozen
          have ld := K1.out.lt
          refine wpAnyH_ready (rs := [7]) (by kernel_rfl) (by simp) ?_
          refine AllReadyH.cons rfl (fun K hK => ?_) AllReadyH.nil
          go_simp
          refine hK.out _ _ trivial (fun _ => ?_)
          clear hK K
          (try simp only [Act.put, List.setIfInBounds_toArray, List.set_cons_zero, List.set_cons_succ])
          refine wpAnyH_done (by kernel_rfl) ?_ _
          have z0 : We.cell? ⟨w.heap.size, 0, none⟩ = some (.int .i64 0) := K0.out.cell 0
          have z1 : We.cell? ⟨w.heap.size, 1, none⟩ = some (.int .i64 0) := K0.out.cell 1
          have z2 : We.cell? ⟨w.heap.size, 2, none⟩ = some (.int .i64 0) := K0.out.cell 2
          have z3 : We.cell? ⟨w.heap.size, 3, none⟩ = some (.int .i64 0) := K0.out.cell 3
          have z4 : We.cell? ⟨w.heap.size, 4, none⟩ = some (.int .i64 0) := K0.out.cell 4
          have z5 : We.cell? ⟨w.heap.size, 5, none⟩ = some (.int .i64 0) := K0.out.cell 5
          have z6 : We.cell? ⟨w.heap.size, 6, none⟩ = some (.int .i64 0) := K0.out.cell 6
          have z7 : We.cell? ⟨w.heap.size, 7, none⟩ = some (.int .i64 0) := K0.out.cell 7
          have z8 : We.cell? ⟨w.heap.size, 8, none⟩ = some (.int .i64 0) := K0.out.cell 8
          have z9 : We.cell? ⟨w.heap.size, 9, none⟩ = some (.slice none 0 0) := K0.out.cell 9
          have z10 : We.cell? ⟨w.heap.size, 10, none⟩ = some (.slice none 0 0) := K0.out.cell 10
          have zf := K0.out.frozen
          go_wp2
          go_light
          refine bodyPost_ret (v := .agg #[.int .i64 m.k, .int .i64 m.f, .int .i64 m.v, .int .i64 m.s, .int .i64 m.r.c, .int .i64 m.r.n, .int .i64 m.r.o, .int .i64 m.r.x, .int .i64 m.r.y, .slice B' (m.cl.length + 1) a', .slice m.B m.vt.length m.b]) (by simp [results, Try.results30, go_sem, z0, z1, z2, z3, z4, z5, z6, z7, z8, z9, z10]) rfl ⟨⟨m.k, m.f, m.v, m.s, m.r, B', a', m.cl ++ [y], m.B, m.b, m.vt⟩, by simp [MgP.val], ?_, ?_⟩
          ·
              have o1 := MN.out.setB K1.out 9 (.slice B' (m.cl.length + 1) a')
              have o1 := o1.set (b := w.heap.size) (by omega) 0 (.int .i64 m.k)
              have o1 := o1.set (b := w.heap.size) (by omega) 1 (.int .i64 m.f)
              have o1 := o1.set (b := w.heap.size) (by omega) 2 (.int .i64 m.v)
              have o1 := o1.set (b := w.heap.size) (by omega) 3 (.int .i64 m.s)
              have o1 := o1.set (b := w.heap.size) (by omega) 4 (.int .i64 m.r.c)
              have o1 := o1.set (b := w.heap.size) (by omega) 5 (.int .i64 m.r.n)
              have o1 := o1.set (b := w.heap.size) (by omega) 6 (.int .i64 m.r.o)
              have o1 := o1.set (b := w.heap.size) (by omega) 7 (.int .i64 m.r.x)
              have o1 := o1.set (b := w.heap.size) (by omega) 8 (.int .i64 m.r.y)
              have o1 := o1.set (b := w.heap.size) (by omega) 9 (.slice B' (m.cl.length + 1) a')
              have o1 := o1.set (b := w.heap.size) (by omega) 10 (.slice m.B m.vt.length m.b)
              exact o1.base (by omega)
          · iterate 11 (refine Drawn.set ?_ hOld.out hRlt _ _ _ (Nat.le_refl _))
            refine Drawn.set ?_ hOld.out hRlt _ _ _ (by omega)
            exact Drawn.mk (by omega) (by omega) RD.out GR.out
    · go_simp
      refine (l20Claim (RD.out.below (Below.refl _ _).drew) (by omega)).mono ?_
      rintro e Wd ⟨y, rfl, qd, qd0, qd1, hr, hgr⟩
      have RD := Lib.hid hr
      have GR := Lib.hid (grownBy_trans GR.out (grownBy_trans (Below.grownBy (Below.refl _ _).drew _) hgr))
      have hgr' := grownBy_trans (Below.grownBy (w := Wb) (Below.refl _ _).drew (some R)) hgr
      have K0 := Lib.hid (K0.out.grown hgr' (by simp; omega))
      have K1 := Lib.hid (K1.out.grown hgr' (by simp; omega))
      have MG := Lib.hid (MG.out.far hgr' (fun k hk => by cases hk; omega))
      clear hr hgr hgr'
      refine hK.out _ _ trivial (fun _ => ?_)
      clear hK K
      (try simp only [Act.put, List.setIfInBounds_toArray, List.set_cons_zero, List.set_cons_succ])
      refine wpAnyH_ready (rs := [1, 4]) (by kernel_rfl) (by simp) ?_
      refine AllReadyH.cons rfl (fun K hK => ?_) (AllReadyH.cons rfl (fun K hK => ?_) AllReadyH.nil)
      · have x9 := (K1.out.cell 9).trans (show _ = some (.slice m.A m.cl.length m.a) from rfl)
        go_simp
        refine hK.out _ _ trivial (fun _ => ?_)
        clear x9
        clear hK K
        (try simp only [Act.put, List.setIfInBounds_toArray, List.set_cons_zero, List.set_cons_succ])
        refine wpAnyH_ready (rs := [4]) (by kernel_rfl) (by simp) ?_
        refine AllReadyH.cons rfl (fun K hK => ?_) AllReadyH.nil
        · go_simp
          have RD := Lib.hid (RD.out.below ((Below.refl Wd.heap.size Wd).alloc (Nat.le_refl _) (.cells #[.int .i64 y.s, .int .i64 y.v, .int .i64 y.r.c, .int .i64 y.r.n, .int .i64 y.r.o, .int .i64 y.r.x, .int .i64 y.r.y] 60)))
          have GR := Lib.hid (grownBy_trans GR.out (World.grownBy_alloc Wd (.cells #[.int .i64 y.s, .int .i64 y.v, .int .i64 y.r.c, .int .i64 y.r.n, .int .i64 y.r.o, .int .i64 y.r.x, .int .i64 y.r.y] 60) (some R)))
          have K0 := Lib.hid (K0.out.alloc (.cells #[.int .i64 y.s, .int .i64 y.v, .int .i64 y.r.c, .int .i64 y.r.n, .int .i64 y.r.o, .int .i64 y.r.x, .int .i64 y.r.y] 60))
          have K1 := Lib.hid (K1.out.alloc (.cells #[.int .i64 y.s, .int .i64 y.v, .int .i64 y.r.c, .int .i64 y.r.n, .int .i64 y.r.o, .int .i64 y.r.x, .int .i64 y.r.y] 60))
          have MG := Lib.hid (MG.out.below ((Below.refl _ _).alloc (Nat.le_refl _) (.cells #[.int .i64 y.s, .int .i64 y.v, .int .i64 y.r.c, .int .i64 y.r.n, .int .i64 y.r.o, .int .i64 y.r.x, .int .i64 y.r.y] 60)))
          refine hK.out _ _ trivial (fun _ => ?_)
          clear hK K
          (try simp only [Act.put, List.setIfInBounds_toArray, List.set_cons_zero, List.set_cons_succ])
          have hnc : m.cl.length ≤ 3 := hl3
          have hsz := GR.out.size
          refine wpAnyH_ready (rs := [5]) (by kernel_rfl) (by simp) ?_
          refine AllReadyH.cons rfl (fun K hK => ?_) AllReadyH.nil
          refine step_append_own (by rfl) _ _ 25 (by rfl) (w.heap.size + 1) 60 i0 (.agg #[.int .i64 0, .int .i64 0, .int .i64 0, .int .i64 0, .int .i64 0, .int .i64 0, .int .i64 0]) 7 56 Try.underlying25 I1.out I2.out I3.out I4.out (by rfl) (by omega) (.slice m.A m.cl.length m.a) m.cl.length (m.cl.flatMap Cl.cells) (by rfl) MG.out.oc ⟨Wd.heap.size, 0, none⟩ 1 1 y.cells (by rfl) (by rfl) (row_cells Wd 60 #[.int .i64 y.s, .int .i64 y.v, .int .i64 y.r.c, .int .i64 y.r.n, .int .i64 y.r.o, .int .i64 y.r.x, .int .i64 y.r.y] y.cells rfl) (claim_one y) (by unfold maxLen; omega) (by omega) (by have := K0.out.lt; omega) ?_
          intro v' We ho hg _
          obtain ⟨B', a', hv', hm'⟩ := own_form ho
          subst hv'
          have MGc := MG
          have RD := Lib.hid (RD.out.row hg hRlt hOld.out (fun k hk => by have := (own_block_ge MGc.out.oc k hk).1; omega))
          have GR := Lib.hid (grown_row GR.out hg (fun k hk => by have := (own_block_ge MGc.out.oc k hk).1; omega))
          have K0 := Lib.hid (K0.out.grown hg (fun e => own_ne MGc.out.oc K0.out (by decide) e.symm))
          have K1 := Lib.hid (K1.out.grown hg (fun e => own_ne MGc.out.oc K1.out (by decide) e.symm))
          have MN : Hid (MgD We (w.heap.size + 1) ⟨m.k, m.f, m.v, m.s, m.r, B', a', m.cl ++ [y], m.B, m.b, m.vt⟩) := by
            have hne : ∀ x, (Value.slice m.B m.vt.length m.b).ownBlock = some x → (Value.slice m.A m.cl.length m.a).ownBlock ≠ some x := own_row_ne MGc.out.ov MGc.out.oc (by decide)
            refine ⟨by have := hl3; simp; omega, MGc.out.nv, MGc.out.n3, by rw [List.flatMap_append, List.length_append]; simpa using ho, MGc.out.ov.kept hg ?_, fun v hv => World.ownsRow.kept (MGc.out.oo v hv) hg ?_⟩
            · rcases hq : (Value.slice m.B m.vt.length m.b).ownBlock with _ | x
              · exact .inl rfl
              · exact .inr fun e => hne x hq e.symm
            · rcases hq : (Value.slice v.A v.cl.length v.c).ownBlock with _ | x
              · exact .inl rfl
              · exact .inr fun e => SP.out v hv x e.symm hq
          clear ho hg MG MGc ld
          refine hK.out _ _ trivial (fun _ => ?_)
          clear hK K
          (try simp only [Act.put, List.setIfInBounds_toArray, List.set_cons_zero, List.set_cons_succ])
          refine takeD 6 40 (v := ?_) rfl rfl (by kernel_rfl) (by kernel_rfl) (by kernel_rfl) (fun _ _ _ h => h) (Or.inl ⟨by rfl, ?_⟩) (by assumption) ?_
          rotate_left
          · intro w1 hSw; go_simp; (try with_reducible rfl)
          (try simp only [Act.put, List.setIfInBounds_toArray, List.set_cons_zero, List.set_cons_succ])
          have x0 : We.cell? ⟨Wa.heap.size, 0, none⟩ = some (.int .i64 m.k) := K1.out.cell 0
          have x1 : We.cell? ⟨Wa.heap.size, 1, none⟩ = some (.int .i64 m.f) := K1.out.cell 1
          have x2 : We.cell? ⟨Wa.heap.size, 2, none⟩ = some (.int .i64 m.v) := K1.out.cell 2
          have x3 : We.cell? ⟨Wa.heap.size, 3, none⟩ = some (.int .i64 m.s) := K1.out.cell 3
          have x4 : We.cell? ⟨Wa.heap.size, 4, none⟩ = some (.int .i64 m.r.c) := K1.out.cell 4
          have x5 : We.cell? ⟨Wa.heap.size, 5, none⟩ = some (.int .i64 m.r.n) := K1.out.cell 5
          have x6 : We.cell? ⟨Wa.heap.size, 6, none⟩ = some (.int .i64 m.r.o) := K1.out.cell 6
          have x7 : We.cell? ⟨Wa.heap.size, 7, none⟩ = some (.int .i64 m.r.x) := K1.out.cell 7
          have x8 : We.cell? ⟨Wa.heap.size, 8, none⟩ = some (.int .i64 m.r.y) := K1.out.cell 8
          have x9 : We.cell? ⟨Wa.heap.size, 9, none⟩ = some (.slice m.A m.cl.length m.a) := K1.out.cell 9
          have x10 : We.cell? ⟨Wa.heap.size, 10, none⟩ = some (.slice m.B m.vt.length m.b) := K1.out.cell 10
          have xf := K1.out.frozen
          have ld := K1.out.lt
          refine wpAnyH_ready (rs := [7]) (by kernel_rfl) (by simp) ?_
          refine AllReadyH.cons rfl (fun K hK => ?_) AllReadyH.nil
          go_simp
          refine hK.out _ _ trivial (fun _ => ?_)
          clear hK K
          (try simp only [Act.put, List.setIfInBounds_toArray, List.set_cons_zero, List.set_cons_succ])
          refine wpAnyH_done (by kernel_rfl) ?_ _
          have z0 : We.cell? ⟨w.heap.size, 0, none⟩ = some (.int .i64 0) := K0.out.cell 0
          have z1 : We.cell? ⟨w.heap.size, 1, none⟩ = some (.int .i64 0) := K0.out.cell 1
          have z2 : We.cell? ⟨w.heap.size, 2, none⟩ = some (.int .i64 0) := K0.out.cell 2
          have z3 : We.cell? ⟨w.heap.size, 3, none⟩ = some (.int .i64 0) := K0.out.cell 3
          have z4 : We.cell? ⟨w.heap.size, 4, none⟩ = some (.int .i64 0) := K0.out.cell 4
          have z5 : We.cell? ⟨w.heap.size, 5, none⟩ = some (.int .i64 0) := K0.out.cell 5
          have z6 : We.cell? ⟨w.heap.size, 6, none⟩ = some (.int .i64 0) := K0.out.cell 6
          have z7 : We.cell? ⟨w.heap.size, 7, none⟩ = some (.int .i64 0) := K0.out.cell 7
          have z8 : We.cell? ⟨w.heap.size, 8, none⟩ = some (.int .i64 0) := K0.out.cell 8
          have z9 : We.cell? ⟨w.heap.size, 9, none⟩ = some (.slice none 0 0) := K0.out.cell 9
          have z10 : We.cell? ⟨w.heap.size, 10, none⟩ = some (.slice none 0 0) := K0.out.cell 10
          have zf := K0.out.frozen
          go_wp2
          go_light
          refine bodyPost_ret (v := .agg #[.int .i64 m.k, .int .i64 m.f, .int .i64 m.v, .int .i64 m.s, .int .i64 m.r.c, .int .i64 m.r.n, .int .i64 m.r.o, .int .i64 m.r.x, .int .i64 m.r.y, .slice B' (m.cl.length + 1) a', .slice m.B m.vt.length m.b]) (by simp [results, Try.results30, go_sem, z0, z1, z2, z3, z4, z5, z6, z7, z8, z9, z10]) rfl ⟨⟨m.k, m.f, m.v, m.s, m.r, B', a', m.cl ++ [y], m.B, m.b, m.vt⟩, by simp [MgP.val], ?_, ?_⟩
          ·
              have o1 := MN.out.setB K1.out 9 (.slice B' (m.cl.length + 1) a')
              have o1 := o1.set (b := w.heap.size) (by omega) 0 (.int .i64 m.k)
              have o1 := o1.set (b := w.heap.size) (by omega) 1 (.int .i64 m.f)
              have o1 := o1.set (b := w.heap.size) (by omega) 2 (.int .i64 m.v)
              have o1 := o1.set (b := w.heap.size) (by omega) 3 (.int .i64 m.s)
              have o1 := o1.set (b := w.heap.size) (by omega) 4 (.int .i64 m.r.c)
              have o1 := o1.set (b := w.heap.size) (by omega) 5 (.int .i64 m.r.n)
              have o1 := o1.set (b := w.heap.size) (by omega) 6 (.int .i64 m.r.o)
              have o1 := o1.set (b := w.heap.size) (by omega) 7 (.int .i64 m.r.x)
              have o1 := o1.set (b := w.heap.size) (by omega) 8 (.int .i64 m.r.y)
              have o1 := o1.set (b := w.heap.size) (by omega) 9 (.slice B' (m.cl.length + 1) a')
              have o1 := o1.set (b := w.heap.size) (by omega) 10 (.slice m.B m.vt.length m.b)
              exact o1.base (by omega)
          · iterate 11 (refine Drawn.set ?_ hOld.out hRlt _ _ _ (Nat.le_refl _))
            refine Drawn.set ?_ hOld.out hRlt _ _ _ (by omega)
            exact Drawn.mk (by omega) (by omega) RD.out GR.out
      · go_simp
        have RD := Lib.hid (RD.out.below ((Below.refl Wd.heap.size Wd).alloc (Nat.le_refl _) (.cells #[.int .i64 y.s, .int .i64 y.v, .int .i64 y.r.c, .int .i64 y.r.n, .int .i64 y.r.o, .int .i64 y.r.x, .int .i64 y.r.y] 60)))
        have GR := Lib.hid (grownBy_trans GR.out (World.grownBy_alloc Wd (.cells #[.int .i64 y.s, .int .i64 y.v, .int .i64 y.r.c, .int .i64 y.r.n, .int .i64 y.r.o, .int .i64 y.r.x, .int .i64 y.r.y] 60) (some R)))
        have K0 := Lib.hid (K0.out.alloc (.cells #[.int .i64 y.s, .int .i64 y.v, .int .i64 y.r.c, .int .i64 y.r.n, .int .i64 y.r.o, .int .i64 y.r.x, .int .i64 y.r.y] 60))
        have K1 := Lib.hid (K1.out.alloc (.cells #[.int .i64 y.s, .int .i64 y.v, .int .i64 y.r.c, .int .i64 y.r.n, .int .i64 y.r.o, .int .i64 y.r.x, .int .i64 y.r.y] 60))
        have MG := Lib.hid (MG.out.below ((Below.refl _ _).alloc (Nat.le_refl _) (.cells #[.int .i64 y.s, .int .i64 y.v, .int .i64 y.r.c, .int .i64 y.r.n, .int .i64 y.r.o, .int .i64 y.r.x, .int .i64 y.r.y] 60)))
        refine hK.out _ _ trivial (fun _ => ?_)
        clear hK K
        (try simp only [Act.put, List.setIfInBounds_toArray, List.set_cons_zero, List.set_cons_succ])
        refine wpAnyH_ready (rs := [1]) (by kernel_rfl) (by simp) ?_
        refine AllReadyH.cons rfl (fun K hK => ?_) AllReadyH.nil
        · have x9 := (K1.out.cell 9).trans (show _ = some (.slice m.A m.cl.length m.a) from rfl)
          go_simp
          refine hK.out _ _ trivial (fun _ => ?_)
          clear x9
          clear hK K
          (try simp only [Act.put, List.setIfInBounds_toArray, List.set_cons_zero, List.set_cons_succ])
          have hnc : m.cl.length ≤ 3 := hl3
          have hsz := GR.out.size
          refine wpAnyH_ready (rs := [5]) (by kernel_rfl) (by simp) ?_
          refine AllReadyH.cons rfl (fun K hK => ?_) AllReadyH.nil
          refine step_append_own (by rfl) _ _ 25 (by rfl) (w.heap.size + 1) 60 i0 (.agg #[.int .i64 0, .int .i64 0, .int .i64 0, .int .i64 0, .int .i64 0, .int .i64 0, .int .i64 0]) 7 56 Try.underlying25 I1.out I2.out I3.out I4.out (by rfl) (by omega) (.slice m.A m.cl.length m.a) m.cl.length (m.cl.flatMap Cl.cells) (by rfl) MG.out.oc ⟨Wd.heap.size, 0, none⟩ 1 1 y.cells (by rfl) (by rfl) (row_cells Wd 60 #[.int .i64 y.s, .int .i64 y.v, .int .i64 y.r.c, .int .i64 y.r.n, .int .i64 y.r.o, .int .i64 y.r.x, .int .i64 y.r.y] y.cells rfl) (claim_one y) (by unfold maxLen; omega) (by omega) (by have := K0.out.lt; omega) ?_
          intro v' We ho hg _
          obtain ⟨B', a', hv', hm'⟩ := own_form ho
          subst hv'
          have MGc := MG
          have RD := Lib.hid (RD.out.row hg hRlt hOld.out (fun k hk => by have := (own_block_ge MGc.out.oc k hk).1; omega))
          have GR := Lib.hid (grown_row GR.out hg (fun k hk => by have := (own_block_ge MGc.out.oc k hk).1; omega))
          have K0 := Lib.hid (K0.out.grown hg (fun e => own_ne MGc.out.oc K0.out (by decide) e.symm))
          have K1 := Lib.hid (K1.out.grown hg (fun e => own_ne MGc.out.oc K1.out (by decide) e.symm))
          have MN : Hid (MgD We (w.heap.size + 1) ⟨m.k, m.f, m.v, m.s, m.r, B', a', m.cl ++ [y], m.B, m.b, m.vt⟩) := by
            have hne : ∀ x, (Value.slice m.B m.vt.length m.b).ownBlock = some x → (Value.slice m.A m.cl.length m.a).ownBlock ≠ some x := own_row_ne MGc.out.ov MGc.out.oc (by decide)
            refine ⟨by have := hl3; simp; omega, MGc.out.nv, MGc.out.n3, by rw [List.flatMap_append, List.length_append]; simpa using ho, MGc.out.ov.kept hg ?_, fun v hv => World.ownsRow.kept (MGc.out.oo v hv) hg ?_⟩
            · rcases hq : (Value.slice m.B m.vt.length m.b).ownBlock with _ | x
              · exact .inl rfl
              · exact .inr fun e => hne x hq e.symm
            · rcases hq : (Value.slice v.A v.cl.length v.c).ownBlock with _ | x
              · exact .inl rfl
              · exact .inr fun e => SP.out v hv x e.symm hq
          clear ho hg MG MGc ld
          refine hK.out _ _ trivial (fun _ => ?_)
          clear hK K
          (try simp only [Act.put, List.setIfInBounds_toArray, List.set_cons_zero, List.set_cons_succ])
          refine takeD 6 40 (v := ?_) rfl rfl (by kernel_rfl) (by kernel_rfl) (by kernel_rfl) (fun _ _ _ h => h) (Or.inl ⟨by rfl, ?_⟩) (by assumption) ?_
          rotate_left
          · intro w1 hSw; go_simp; (try with_reducible rfl)
          (try simp only [Act.put, List.setIfInBounds_toArray, List.set_cons_zero, List.set_cons_succ])
          have x0 : We.cell? ⟨Wa.heap.size, 0, none⟩ = some (.int .i64 m.k) := K1.out.cell 0
          have x1 : We.cell? ⟨Wa.heap.size, 1, none⟩ = some (.int .i64 m.f) := K1.out.cell 1
          have x2 : We.cell? ⟨Wa.heap.size, 2, none⟩ = some (.int .i64 m.v) := K1.out.cell 2
          have x3 : We.cell? ⟨Wa.heap.size, 3, none⟩ = some (.int .i64 m.s) := K1.out.cell 3
          have x4 : We.cell? ⟨Wa.heap.size, 4, none⟩ = some (.int .i64 m.r.c) := K1.out.cell 4
          have x5 : We.cell? ⟨Wa.heap.size, 5, none⟩ = some (.int .i64 m.r.n) := K1.out.cell 5
          have x6 : We.cell? ⟨Wa.heap.size, 6, none⟩ = some (.int .i64 m.r.o) := K1.out.cell 6
          have x7 : We.cell? ⟨Wa.heap.size, 7, none⟩ = some (.int .i64 m.r.x) := K1.out.cell 7
          have x8 : We.cell? ⟨Wa.heap.size, 8, none⟩ = some (.int .i64 m.r.y) := K1.out.cell 8
          have x9 : We.cell? ⟨Wa.heap.size, 9, none⟩ = some (.slice m.A m.cl.length m.a) := K1.out.cell 9
          have x10 : We.cell? ⟨Wa.heap.size, 10, none⟩ = some (.slice m.B m.vt.length m.b) := K1.out.cell 10
          have xf := K1.out.frozen
          have ld := K1.out.lt
          refine wpAnyH_ready (rs := [7]) (by kernel_rfl) (by simp) ?_
          refine AllReadyH.cons rfl (fun K hK => ?_) AllReadyH.nil
          go_simp
          refine hK.out _ _ trivial (fun _ => ?_)
          clear hK K
          (try simp only [Act.put, List.setIfInBounds_toArray, List.set_cons_zero, List.set_cons_succ])
          refine wpAnyH_done (by kernel_rfl) ?_ _
          have z0 : We.cell? ⟨w.heap.size, 0, none⟩ = some (.int .i64 0) := K0.out.cell 0
          have z1 : We.cell? ⟨w.heap.size, 1, none⟩ = some (.int .i64 0) := K0.out.cell 1
          have z2 : We.cell? ⟨w.heap.size, 2, none⟩ = some (.int .i64 0) := K0.out.cell 2
          have z3 : We.cell? ⟨w.heap.size, 3, none⟩ = some (.int .i64 0) := K0.out.cell 3
          have z4 : We.cell? ⟨w.heap.size, 4, none⟩ = some (.int .i64 0) := K0.out.cell 4
          have z5 : We.cell? ⟨w.heap.size, 5, none⟩ = some (.int .i64 0) := K0.out.cell 5
          have z6 : We.cell? ⟨w.heap.size, 6, none⟩ = some (.int .i64 0) := K0.out.cell 6
          have z7 : We.cell? ⟨w.heap.size, 7, none⟩ = some (.int .i64 0) := K0.out.cell 7
          have z8 : We.cell? ⟨w.heap.size, 8, none⟩ = some (.int .i64 0) := K0.out.cell 8
          have z9 : We.cell? ⟨w.heap.size, 9, none⟩ = some (.slice none 0 0) := K0.out.cell 9
          have z10 : We.cell? ⟨w.heap.size, 10, none⟩ = some (.slice none 0 0) := K0.out.cell 10
          have zf := K0.out.frozen
          go_wp2
          go_light
          refine bodyPost_ret (v := .agg #[.int .i64 m.k, .int .i64 m.f, .int .i64 m.v, .int .i64 m.s, .int .i64 m.r.c, .int .i64 m.r.n, .int .i64 m.r.o, .int .i64 m.r.x, .int .i64 m.r.y, .slice B' (m.cl.length + 1) a', .slice m.B m.vt.length m.b]) (by simp [results, Try.results30, go_sem, z0, z1, z2, z3, z4, z5, z6, z7, z8, z9, z10]) rfl ⟨⟨m.k, m.f, m.v, m.s, m.r, B', a', m.cl ++ [y], m.B, m.b, m.vt⟩, by simp [MgP.val], ?_, ?_⟩
          ·
              have o1 := MN.out.setB K1.out 9 (.slice B' (m.cl.length + 1) a')
              have o1 := o1.set (b := w.heap.size) (by omega) 0 (.int .i64 m.k)
              have o1 := o1.set (b := w.heap.size) (by omega) 1 (.int .i64 m.f)
              have o1 := o1.set (b := w.heap.size) (by omega) 2 (.int .i64 m.v)
              have o1 := o1.set (b := w.heap.size) (by omega) 3 (.int .i64 m.s)
              have o1 := o1.set (b := w.heap.size) (by omega) 4 (.int .i64 m.r.c)
              have o1 := o1.set (b := w.heap.size) (by omega) 5 (.int .i64 m.r.n)
              have o1 := o1.set (b := w.heap.size) (by omega) 6 (.int .i64 m.r.o)
              have o1 := o1.set (b := w.heap.size) (by omega) 7 (.int .i64 m.r.x)
              have o1 := o1.set (b := w.heap.size) (by omega) 8 (.int .i64 m.r.y)
              have o1 := o1.set (b := w.heap.size) (by omega) 9 (.slice B' (m.cl.length + 1) a')
              have o1 := o1.set (b := w.heap.size) (by omega) 10 (.slice m.B m.vt.length m.b)
              exact o1.base (by omega)
          · iterate 11 (refine Drawn.set ?_ hOld.out hRlt _ _ _ (Nat.le_refl _))
            refine Drawn.set ?_ hOld.out hRlt _ _ _ (by omega)
            exact Drawn.mk (by omega) (by omega) RD.out GR.out
  have e0 : (d == 0) = false := by simp; omega
  have e1 : (d == 1) = false := by simp; omega
  have e2 : (d == 2) = false := by simp; omega
  have e3 : (d == 3) = false := by simp; omega
  have e4 : (d == 4) = false := by simp; omega
  clear h0 h1 h2 h3 h4
  have x0 : Wb.cell? ⟨Wa.heap.size, 0, none⟩ = some (.int .i64 m.k) := K1.out.cell 0
  have x1 : Wb.cell? ⟨Wa.heap.size, 1, none⟩ = some (.int .i64 m.f) := K1.out.cell 1
  have x2 : Wb.cell? ⟨Wa.heap.size, 2, none⟩ = some (.int .i64 m.v) := K1.out.cell 2
  have x3 : Wb.cell? ⟨Wa.heap.size, 3, none⟩ = some (.int .i64 m.s) := K1.out.cell 3
  have x4 : Wb.cell? ⟨Wa.heap.size, 4, none⟩ = some (.int .i64 m.r.c) := K1.out.cell 4
  have x5 : Wb.cell? ⟨Wa.heap.size, 5, none⟩ = some (.int .i64 m.r.n) := K1.out.cell 5
  have x6 : Wb.cell? ⟨Wa.heap.size, 6, none⟩ = some (.int .i64 m.r.o) := K1.out.cell 6
  have x7 : Wb.cell? ⟨Wa.heap.size, 7, none⟩ = some (.int .i64 m.r.x) := K1.out.cell 7
  have x8 : Wb.cell? ⟨Wa.heap.size, 8, none⟩ = some (.int .i64 m.r.y) := K1.out.cell 8
  have x9 : Wb.cell? ⟨Wa.heap.size, 9, none⟩ = some (.slice m.A m.cl.length m.a) := K1.out.cell 9
  have x10 : Wb.cell? ⟨Wa.heap.size, 10, none⟩ = some (.slice m.B m.vt.length m.b) := K1.out.cell 10
  have xf := K1.out.frozen
  have z0 : Wb.cell? ⟨w.heap.size, 0, none⟩ = some (.int .i64 0) := K0.out.cell 0
  have z1 : Wb.cell? ⟨w.heap.size, 1, none⟩ = some (.int .i64 0) := K0.out.cell 1
  have z2 : Wb.cell? ⟨w.heap.size, 2, none⟩ = some (.int .i64 0) := K0.out.cell 2
  have z3 : Wb.cell? ⟨w.heap.size, 3, none⟩ = some (.int .i64 0) := K0.out.cell 3
  have z4 : Wb.cell? ⟨w.heap.size, 4, none⟩ = some (.int .i64 0) := K0.out.cell 4
  have z5 : Wb.cell? ⟨w.heap.size, 5, none⟩ = some (.int .i64 0) := K0.out.cell 5
  have z6 : Wb.cell? ⟨w.heap.size, 6, none⟩ = some (.int .i64 0) := K0.out.cell 6
  have z7 : Wb.cell? ⟨w.heap.size, 7, none⟩ = some (.int .i64 0) := K0.out.cell 7
  have z8 : Wb.cell? ⟨w.heap.size, 8, none⟩ = some (.int .i64 0) := K0.out.cell 8
  have z9 : Wb.cell? ⟨w.heap.size, 9, none⟩ = some (.slice none 0 0) := K0.out.cell 9
  have z10 : Wb.cell? ⟨w.heap.size, 10, none⟩ = some (.slice none 0 0) := K0.out.cell 10
  have zf := K0.out.frozen
  go_wp2
  go_light
  refine bodyPost_ret (v := .agg #[.int .i64 m.k, .int .i64 m.f, .int .i64 m.v, .int .i64 m.s, .int .i64 m.r.c, .int .i64 m.r.n, .int .i64 m.r.o, .int .i64 m.r.x, .int .i64 m.r.y, .slice m.A m.cl.length m.a, .slice m.B m.vt.length m.b]) (by simp [results, Try.results30, go_sem, z0, z1, z2, z3, z4, z5, z6, z7, z8, z9, z10]) rfl ⟨m, rfl, ?_, ?_⟩
  · have o1 := MG.out.set (b := w.heap.size) (by omega) 0 (.int .i64 m.k)
    have o1 := o1.set (b := w.heap.size) (by omega) 1 (.int .i64 m.f)
    have o1 := o1.set (b := w.heap.size) (by omega) 2 (.int .i64 m.v)
    have o1 := o1.set (b := w.heap.size) (by omega) 3 (.int .i64 m.s)
    have o1 := o1.set (b := w.heap.size) (by omega) 4 (.int .i64 m.r.c)
    have o1 := o1.set (b := w.heap.size) (by omega) 5 (.int .i64 m.r.n)
    have o1 := o1.set (b := w.heap.size) (by omega) 6 (.int .i64 m.r.o)
    have o1 := o1.set (b := w.heap.size) (by omega) 7 (.int .i64 m.r.x)
    have o1 := o1.set (b := w.heap.size) (by omega) 8 (.int .i64 m.r.y)
    have o1 := o1.set (b := w.heap.size) (by omega) 9 (.slice m.A m.cl.length m.a)
    have o1 := o1.set (b := w.heap.size) (by omega) 10 (.slice m.B m.vt.length m.b)
    exact o1.base (by omega)
  · iterate 11 (refine Drawn.set ?_ hOld.out hRlt _ _ _ (Nat.le_refl _))
    exact Drawn.mk (by omega) (by omega) RD.out GR.out

end Go.Proofs.Ytjpbflehedbijaa
