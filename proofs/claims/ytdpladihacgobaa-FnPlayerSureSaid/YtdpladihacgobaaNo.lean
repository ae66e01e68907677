/- An answer drawn of a code. -/
import Derived.Test.YtdpladihacgobaaNk
import Derived.Test.YtdpladihacgobaaMM
namespace Go.Proofs.Ytdpladihacgobaa
open Go.ChangeShapes Go.WideShapes Go.ChangeAt Go.RowKit
set_option linter.unusedVariables false
set_option linter.unusedSimpArgs false

theorem lit_cellsN (w : World) (t : TypeId) (l : List Int) : ∀ i (hi : i < l.length), (w.alloc (.cells (l.map (Value.int .i64)).toArray t)).cell? ⟨w.heap.size, i, none⟩ = some (.int .i64 (l[i]'hi)) := by
  intro i hi
  rw [cell_of_row _ _ i _ t (0, 0) (heap_alloc_new w _)]
  simp [hi]
theorem back4N {w W : World} {R : Nat} {A : Option Addr} {n c : Nat} {p K q : Int} (u0 u1 u2 u3 : Value) (hq0 : p ≤ q) (hq1 : q ≤ p + K) (hr : Reader W R A n c q) (hg : w.grownBy W (some R)) (hOld : ∀ b off, A = some ⟨b, off, none⟩ → 0 < n → b < w.heap.size) (hR : R < w.heap.size) :
    Drawn w R A n c p K ((((W.setCell ⟨w.heap.size, 0, none⟩ u0).setCell ⟨w.heap.size, 1, none⟩ u1).setCell ⟨w.heap.size, 2, none⟩ u2).setCell ⟨w.heap.size, 3, none⟩ u3) := by
  refine ⟨q, hq0, hq1, ?_, ?_⟩
  · exact (((hr.set w.heap.size _ 0 u0 hOld hR (Nat.le_refl _)).set w.heap.size _ 1 u1 hOld hR (Nat.le_refl _)).set w.heap.size _ 2 u2 hOld hR (Nat.le_refl _)).set w.heap.size _ 3 u3 hOld hR (Nat.le_refl _)
  · exact grown_new (grown_new (grown_new (grown_new hg (grownBy_set W w.heap.size 0 u0) (Nat.le_refl _)) (grownBy_set _ w.heap.size 1 u1) (Nat.le_refl _)) (grownBy_set _ w.heap.size 2 u2) (Nat.le_refl _)) (grownBy_set _ w.heap.size 3 u3) (Nat.le_refl _)
/-- A drawn answer on its way: x: its box. -/
structure RpI (w : World) (R : Nat) (A : Option Addr) (n c : Nat) (q : Int) (W : World) : Prop where
  res : Bkk W w.heap.size 29 #[.int .i64 0, .int .i64 0, .int .i64 0, .int .i64 0]
  rd : Reader W R A n c q
  gr : w.grownBy W (some R)
theorem RpI.below {w W W' : World} {R : Nat} {A : Option Addr} {n c : Nat} {q : Int} (h : RpI w R A n c q W) (hb : Below W.heap.size W W') : RpI w R A n c q W' := ⟨h.res.below hb, h.rd.below hb, grownBy_trans h.gr (Below.grownBy hb _)⟩
theorem RpI.draw {w W W' : World} {R : Nat} {A : Option Addr} {n c : Nat} {q q' : Int} (h : RpI w R A n c q W) (hR : R < w.heap.size) (hr : Reader W' R A n c q') (hg : W.grownBy W' (some R)) : RpI w R A n c q' W' := ⟨h.res.grown hg (fun e => by injection e with e; omega), hr, grownBy_trans h.gr hg⟩
theorem RpI.set {w W : World} {R : Nat} {A : Option Addr} {n c : Nat} {q : Int} (h : RpI w R A n c q W) (hO : ∀ b off, A = some ⟨b, off, none⟩ → 0 < n → b < w.heap.size) (hR : R < w.heap.size) {x : Nat} (hx : w.heap.size < x) (j : Nat) (v : Value) : RpI w R A n c q (W.setCell ⟨x, j, none⟩ v) :=
  ⟨h.res.far (by omega) j v, h.rd.set w.heap.size x j v hO hR (by omega), grown_new h.gr (grownBy_set W x j v) (by omega)⟩

set_option maxRecDepth 100000 in
set_option maxHeartbeats 4000000 in
theorem l20Reply {w : World} {R : Nat} {A : Option Addr} {n c : Nat} {p : Int} (num : Int) (h : Reader w R A n c p) (hp : p ≤ 99000) :
    Calls Try.prog 32 #[.pointer (some ⟨R, 0, none⟩), .int .i64 num] w fun e w' => ∃ r : Rp, e = .returned r.val ∧ Drawn w R A n c p 5 w' := by
  have hRlt := h.lt
  have hlo := h.lo
  have HOld := Lib.hid h.old
  have hb0 : Below w.heap.size w (w.alloc (.cells #[.int .i64 0, .int .i64 0, .int .i64 0, .int .i64 0] 29)) := (Below.refl _ _).alloc (Nat.le_refl _) _
  have LI : Hid (RpI w R A n c p (w.alloc (.cells #[.int .i64 0, .int .i64 0, .int .i64 0, .int .i64 0] 29))) := ⟨Bkk.new _, h.below hb0, Below.grownBy hb0 (some R)⟩
  clear h hb0
  go_enter Try.func32, Try.ntmps32
  go_wp2_with (fail)
  refine (pickR 4 LI.out.rd (by omega) (by omega) (by omega)).mono ?_
  rintro e wa ⟨v, v0, v1, rfl, qa, qa0, qa1, hr, hgr⟩
  have LI := Lib.hid (LI.out.draw hRlt hr hgr)
  clear hr hgr
  have GSwa := LI.out.gr.size
  have hb0 : Below wa.heap.size wa (wa.alloc (.cells #[.int .i64 0, .int .i64 0, .int .i64 3, .int .i64 6] 3)) := (Below.refl _ _).alloc (Nat.le_refl _) _
  have LI := Lib.hid (LI.out.below hb0)
  have hlt := LI.out.res.lt
  have hRW : R < wa.heap.size := Nat.lt_of_lt_of_le hRlt (by have := LI.out.gr.size; have := GSwa; omega)
  go_wp2_with (fail)
  refine (oneR wa.heap.size [0, 0, 3, 6] LI.out.rd (by omega) (by simp) (by simp) (by omega) (lit_cellsN wa 3 [0, 0, 3, 6])).mono ?_
  rintro e wb ⟨k, rfl, qb, qb0, qb1, hr, hgr⟩
  have LI := Lib.hid (LI.out.draw hRlt hr hgr)
  clear hr hgr hb0 hlt hRW
  have GSwb := LI.out.gr.size
  have hb0 : Below wb.heap.size wb (wb.alloc (.cells #[.int .i64 7, .int .i64 7, .int .i64 9] 3)) := (Below.refl _ _).alloc (Nat.le_refl _) _
  have LI := Lib.hid (LI.out.below hb0)
  have hlt := LI.out.res.lt
  have hRW : R < wb.heap.size := Nat.lt_of_lt_of_le hRlt (by have := LI.out.gr.size; have := GSwb; omega)
  go_wp2_with (fail)
  refine (oneR wb.heap.size [7, 7, 9] LI.out.rd (by omega) (by simp) (by simp) (by omega) (lit_cellsN wb 3 [7, 7, 9])).mono ?_
  rintro e wc ⟨s, rfl, qc, qc0, qc1, hr, hgr⟩
  have LI := Lib.hid (LI.out.draw hRlt hr hgr)
  clear hr hgr hb0 hlt hRW
  have hb0 : Below wc.heap.size wc (wc.alloc (.cells #[.int .i64 v, .int .i64 num, .int .i64 k, .int .i64 s] 29)) := (Below.refl _ _).alloc (Nat.le_refl _) _
  have hx : w.heap.size < wc.heap.size := LI.out.res.lt
  have LI := Lib.hid (LI.out.below hb0)
  have XB : Hid (Bkk (wc.alloc (.cells #[.int .i64 v, .int .i64 num, .int .i64 k, .int .i64 s] 29)) wc.heap.size 29 #[.int .i64 v, .int .i64 num, .int .i64 k, .int .i64 s]) := Bkk.new _
  clear hb0
  go_upto_region 2 with (fail)
  obtain ⟨x, hxx⟩ : ∃ X, X = wc.heap.size := ⟨_, rfl⟩
  obtain ⟨wd, hwd⟩ : ∃ X, X = wc.alloc (.cells #[.int .i64 v, .int .i64 num, .int .i64 k, .int .i64 s] 29) := ⟨_, rfl⟩
  rw [← hwd] at LI XB ⊢
  rw [← hxx] at XB hx ⊢
  clear hwd hxx
  go_wp2_with (fail)
  refine (pickR 12 LI.out.rd (by omega) (by omega) (by omega)).mono ?_
  rintro e we ⟨g, g0, g1, rfl, qd, qd0, qd1, hr, hgr⟩
  have LI := Lib.hid (LI.out.draw hRlt hr hgr)
  have XB := Lib.hid (XB.out.grown hgr (fun e => by injection e with e; omega))
  clear hr hgr
  by_cases h0 : g = 0
  · subst h0
    have x0 : we.cell? ⟨x, 0, none⟩ = some (.int .i64 v) := XB.out.cell 0
    have x1 : we.cell? ⟨x, 1, none⟩ = some (.int .i64 num) := XB.out.cell 1
    have x2 : we.cell? ⟨x, 2, none⟩ = some (.int .i64 k) := XB.out.cell 2
    have x3 : we.cell? ⟨x, 3, none⟩ = some (.int .i64 s) := XB.out.cell 3
    have xf := XB.out.frozen
    have lx := XB.out.lt
    go_upto_region 9 with (fail)
    clear x0 x1 x2 x3 xf lx
    obtain ⟨N1, hN1⟩ : ∃ X, X = wrap64 (num + 1) := ⟨_, rfl⟩
    rw [← hN1]
    clear hN1
    have XB : Hid (Bkk (we.setCell ⟨x, 1, none⟩ (.int .i64 N1)) x 29 #[.int .i64 v, .int .i64 N1, .int .i64 k, .int .i64 s]) := XB.out.set 1 (.int .i64 N1)
    have LI := Lib.hid (LI.out.set HOld.out hRlt hx 1 (.int .i64 N1))
    obtain ⟨wf, hwf⟩ : ∃ X, X = we.setCell ⟨x, 1, none⟩ (.int .i64 N1) := ⟨_, rfl⟩
    rw [← hwf] at LI XB ⊢
    clear hwf
    have z0 : wf.cell? ⟨w.heap.size, 0, none⟩ = some (.int .i64 0) := LI.out.res.cell 0
    have z1 : wf.cell? ⟨w.heap.size, 1, none⟩ = some (.int .i64 0) := LI.out.res.cell 1
    have z2 : wf.cell? ⟨w.heap.size, 2, none⟩ = some (.int .i64 0) := LI.out.res.cell 2
    have z3 : wf.cell? ⟨w.heap.size, 3, none⟩ = some (.int .i64 0) := LI.out.res.cell 3
    have zf := LI.out.res.frozen
    have lz := LI.out.res.lt
    have x0 : wf.cell? ⟨x, 0, none⟩ = some (.int .i64 v) := XB.out.cell 0
    have x1 : wf.cell? ⟨x, 1, none⟩ = some (.int .i64 N1) := XB.out.cell 1
    have x2 : wf.cell? ⟨x, 2, none⟩ = some (.int .i64 k) := XB.out.cell 2
    have x3 : wf.cell? ⟨x, 3, none⟩ = some (.int .i64 s) := XB.out.cell 3
    have DR := Lib.hid (back4N (K := 5) (p := p) (q := qd) (.int .i64 v) (.int .i64 N1) (.int .i64 k) (.int .i64 s) (by omega) (by omega) LI.out.rd LI.out.gr HOld.out hRlt)
    clear LI XB
    go_wp2
    refine bodyPost_ret (v := .agg #[.int .i64 v, .int .i64 N1, .int .i64 k, .int .i64 s]) (by simp [results, Try.results32, go_sem, z0, z1, z2, z3, zf]) rfl ⟨⟨v, N1, k, s⟩, rfl, DR.out⟩
  have e0 : (g == 0) = false := by simpa using h0
  by_cases h1 : g = 1
  · subst h1
    clear e0 h0
    go_upto_region 6 with (fail)
    have GSwe := LI.out.gr.size
    have hb0 : Below we.heap.size we (we.alloc (.cells #[.int .i64 (-1), .int .i64 4] 3)) := (Below.refl _ _).alloc (Nat.le_refl _) _
    have LI := Lib.hid (LI.out.below hb0)
    have XB := Lib.hid (XB.out.below hb0)
    have hlt := LI.out.res.lt
    have hRW : R < we.heap.size := Nat.lt_of_lt_of_le hRlt (by have := LI.out.gr.size; have := GSwe; omega)
    go_wp2_with (fail)
    refine (oneR we.heap.size [-1, 4] LI.out.rd (by omega) (by simp) (by simp) (by omega) (lit_cellsN we 3 [-1, 4])).mono ?_
    rintro e wf ⟨F, rfl, qf, qf0, qf1, hr, hgr⟩
    have LI := Lib.hid (LI.out.draw hRlt hr hgr)
    have XB := Lib.hid (XB.out.grown hgr (fun e => by injection e with e; omega))
    clear hr hgr hb0 hlt hRW
    have x0 : wf.cell? ⟨x, 0, none⟩ = some (.int .i64 v) := XB.out.cell 0
    have x1 : wf.cell? ⟨x, 1, none⟩ = some (.int .i64 num) := XB.out.cell 1
    have x2 : wf.cell? ⟨x, 2, none⟩ = some (.int .i64 k) := XB.out.cell 2
    have x3 : wf.cell? ⟨x, 3, none⟩ = some (.int .i64 s) := XB.out.cell 3
    have xf := XB.out.frozen
    have lx := XB.out.lt
    go_upto_region 9 with (fail)
    clear x0 x1 x2 x3 xf lx
    have XB : Hid (Bkk (wf.setCell ⟨x, 0, none⟩ (.int .i64 F)) x 29 #[.int .i64 F, .int .i64 num, .int .i64 k, .int .i64 s]) := XB.out.set 0 (.int .i64 F)
    have LI := Lib.hid (LI.out.set HOld.out hRlt hx 0 (.int .i64 F))
    obtain ⟨wg, hwg⟩ : ∃ X, X = wf.setCell ⟨x, 0, none⟩ (.int .i64 F) := ⟨_, rfl⟩
    rw [← hwg] at LI XB ⊢
    clear hwg
    have z0 : wg.cell? ⟨w.heap.size, 0, none⟩ = some (.int .i64 0) := LI.out.res.cell 0
    have z1 : wg.cell? ⟨w.heap.size, 1, none⟩ = some (.int .i64 0) := LI.out.res.cell 1
    have z2 : wg.cell? ⟨w.heap.size, 2, none⟩ = some (.int .i64 0) := LI.out.res.cell 2
    have z3 : wg.cell? ⟨w.heap.size, 3, none⟩ = some (.int .i64 0) := LI.out.res.cell 3
    have zf := LI.out.res.frozen
    have lz := LI.out.res.lt
    have x0 : wg.cell? ⟨x, 0, none⟩ = some (.int .i64 F) := XB.out.cell 0
    have x1 : wg.cell? ⟨x, 1, none⟩ = some (.int .i64 num) := XB.out.cell 1
    have x2 : wg.cell? ⟨x, 2, none⟩ = some (.int .i64 k) := XB.out.cell 2
    have x3 : wg.cell? ⟨x, 3, none⟩ = some (.int .i64 s) := XB.out.cell 3
    have DR := Lib.hid (back4N (K := 5) (p := p) (q := qf) (.int .i64 F) (.int .i64 num) (.int .i64 k) (.int .i64 s) (by omega) (by omega) LI.out.rd LI.out.gr HOld.out hRlt)
    clear LI XB
    go_wp2
    refine bodyPost_ret (v := .agg #[.int .i64 F, .int .i64 num, .int .i64 k, .int .i64 s]) (by simp [results, Try.results32, go_sem, z0, z1, z2, z3, zf]) rfl ⟨⟨F, num, k, s⟩, rfl, DR.out⟩
  have e1 : (g == 1) = false := by simpa using h1
  by_cases h2 : g = 2
  · subst h2
    clear e0 e1 h0 h1
    go_upto_region 8 with (fail)
    have GSwe := LI.out.gr.size
    have hb0 : Below we.heap.size we (we.alloc (.cells #[.int .i64 (-1), .int .i64 4294967296] 3)) := (Below.refl _ _).alloc (Nat.le_refl _) _
    have LI := Lib.hid (LI.out.below hb0)
    have XB := Lib.hid (XB.out.below hb0)
    have hlt := LI.out.res.lt
    have hRW : R < we.heap.size := Nat.lt_of_lt_of_le hRlt (by have := LI.out.gr.size; have := GSwe; omega)
    go_wp2_with (fail)
    refine (oneR we.heap.size [-1, 4294967296] LI.out.rd (by omega) (by simp) (by simp) (by omega) (lit_cellsN we 3 [-1, 4294967296])).mono ?_
    rintro e wf ⟨F, rfl, qf, qf0, qf1, hr, hgr⟩
    have LI := Lib.hid (LI.out.draw hRlt hr hgr)
    have XB := Lib.hid (XB.out.grown hgr (fun e => by injection e with e; omega))
    clear hr hgr hb0 hlt hRW
    have x0 : wf.cell? ⟨x, 0, none⟩ = some (.int .i64 v) := XB.out.cell 0
    have x1 : wf.cell? ⟨x, 1, none⟩ = some (.int .i64 num) := XB.out.cell 1
    have x2 : wf.cell? ⟨x, 2, none⟩ = some (.int .i64 k) := XB.out.cell 2
    have x3 : wf.cell? ⟨x, 3, none⟩ = some (.int .i64 s) := XB.out.cell 3
    have xf := XB.out.frozen
    have lx := XB.out.lt
    go_upto_region 9 with (fail)
    clear x0 x1 x2 x3 xf lx
    have XB : Hid (Bkk (wf.setCell ⟨x, 3, none⟩ (.int .i64 F)) x 29 #[.int .i64 v, .int .i64 num, .int .i64 k, .int .i64 F]) := XB.out.set 3 (.int .i64 F)
    have LI := Lib.hid (LI.out.set HOld.out hRlt hx 3 (.int .i64 F))
    obtain ⟨wg, hwg⟩ : ∃ X, X = wf.setCell ⟨x, 3, none⟩ (.int .i64 F) := ⟨_, rfl⟩
    rw [← hwg] at LI XB ⊢
    clear hwg
    have z0 : wg.cell? ⟨w.heap.size, 0, none⟩ = some (.int .i64 0) := LI.out.res.cell 0
    have z1 : wg.cell? ⟨w.heap.size, 1, none⟩ = some (.int .i64 0) := LI.out.res.cell 1
    have z2 : wg.cell? ⟨w.heap.size, 2, none⟩ = some (.int .i64 0) := LI.out.res.cell 2
    have z3 : wg.cell? ⟨w.heap.size, 3, none⟩ = some (.int .i64 0) := LI.out.res.cell 3
    have zf := LI.out.res.frozen
    have lz := LI.out.res.lt
    have x0 : wg.cell? ⟨x, 0, none⟩ = some (.int .i64 v) := XB.out.cell 0
    have x1 : wg.cell? ⟨x, 1, none⟩ = some (.int .i64 num) := XB.out.cell 1
    have x2 : wg.cell? ⟨x, 2, none⟩ = some (.int .i64 k) := XB.out.cell 2
    have x3 : wg.cell? ⟨x, 3, none⟩ = some (.int .i64 F) := XB.out.cell 3
    have DR := Lib.hid (back4N (K := 5) (p := p) (q := qf) (.int .i64 v) (.int .i64 num) (.int .i64 k) (.int .i64 F) (by omega) (by omega) LI.out.rd LI.out.gr HOld.out hRlt)
    clear LI XB
    go_wp2
    refine bodyPost_ret (v := .agg #[.int .i64 v, .int .i64 num, .int .i64 k, .int .i64 F]) (by simp [results, Try.results32, go_sem, z0, z1, z2, z3, zf]) rfl ⟨⟨v, num, k, F⟩, rfl, DR.out⟩
  have e2 : (g == 2) = false := by simpa using h2
  clear h0 h1 h2
  have z0 : we.cell? ⟨w.heap.size, 0, none⟩ = some (.int .i64 0) := LI.out.res.cell 0
  have z1 : we.cell? ⟨w.heap.size, 1, none⟩ = some (.int .i64 0) := LI.out.res.cell 1
  have z2 : we.cell? ⟨w.heap.size, 2, none⟩ = some (.int .i64 0) := LI.out.res.cell 2
  have z3 : we.cell? ⟨w.heap.size, 3, none⟩ = some (.int .i64 0) := LI.out.res.cell 3
  have zf := LI.out.res.frozen
  have lz := LI.out.res.lt
  have x0 : we.cell? ⟨x, 0, none⟩ = some (.int .i64 v) := XB.out.cell 0
  have x1 : we.cell? ⟨x, 1, none⟩ = some (.int .i64 num) := XB.out.cell 1
  have x2 : we.cell? ⟨x, 2, none⟩ = some (.int .i64 k) := XB.out.cell 2
  have x3 : we.cell? ⟨x, 3, none⟩ = some (.int .i64 s) := XB.out.cell 3
  have DR := Lib.hid (back4N (K := 5) (p := p) (q := qd) (.int .i64 v) (.int .i64 num) (.int .i64 k) (.int .i64 s) (by omega) (by omega) LI.out.rd LI.out.gr HOld.out hRlt)
  clear LI XB
  go_wp2
  refine bodyPost_ret (v := .agg #[.int .i64 v, .int .i64 num, .int .i64 k, .int .i64 s]) (by simp [results, Try.results32, go_sem, z0, z1, z2, z3, zf]) rfl ⟨⟨v, num, k, s⟩, rfl, DR.out⟩
end Go.Proofs.Ytdpladihacgobaa
