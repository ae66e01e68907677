/- A player drawn of a code. -/
import Derived.Test.YtdpladihacgobaaNo
import Derived.Test.YtdpladihacgobaaMM
namespace Go.Proofs.Ytdpladihacgobaa
open Go.ChangeShapes Go.WideShapes Go.ChangeAt Go.RowKit
set_option linter.unusedVariables false
set_option linter.unusedSimpArgs false

theorem grown_rowN {a b c : World} {R : Nat} {row : Option Nat} (h : a.grownBy b (some R)) (k : b.grownBy c row) (hx : ∀ x, row = some x → a.heap.size ≤ x) : a.grownBy c (some R) :=
  ⟨k.os.trans h.os, k.tape.trans h.tape, k.output.trans h.output, Nat.le_trans h.size k.size, fun i hi hr => (k.block i (Nat.lt_of_lt_of_le hi h.size) (fun e => by have := hx i e.symm; omega)).trans (h.block i hi hr)⟩
theorem Reader.rowN {w w' : World} {R : Nat} {A : Option Addr} {n c : Nat} {p : Int} {row : Option Nat} {B : Nat} (h : Reader w R A n c p) (hg : w.grownBy w' row) (hR : R < B) (hB : ∀ b off, A = some ⟨b, off, none⟩ → 0 < n → b < B) (hx : ∀ x, row = some x → B ≤ x) : Reader w' R A n c p :=
  ⟨(hg.block R h.lt (fun e => by have := hx R e.symm; omega)).trans h.at_, fun i hi => by
    obtain ⟨b, off, u, hA, hc, hu⟩ := h.bytes i hi
    exact ⟨b, off, u, hA, hg.cell hc (fun e => by have := hx _ e.symm; have := hB b off hA (by omega); simp at *; omega), hu⟩, h.far, h.lo, h.len⟩
theorem Drawn.res {w W : World} {R : Nat} {A : Option Addr} {n c : Nat} {p K : Int} (h : Drawn w R A n c p K W) (hO : ∀ b off, A = some ⟨b, off, none⟩ → 0 < n → b < w.heap.size) (hR : R < w.heap.size) {x : Nat} (hx : w.heap.size ≤ x) (j : Nat) (v : Value) : Drawn w R A n c p K (W.setCell ⟨x, j, none⟩ v) := by
  obtain ⟨q, h0, h1, hr, hg⟩ := h
  exact ⟨q, h0, h1, hr.set w.heap.size x j v hO hR hx, grown_new hg (grownBy_set W x j v) hx⟩
/-- A player on its way: x: its box, that holds cs; L: its rows. -/
structure PlI (w : World) (R : Nat) (A : Option Addr) (n c : Nat) (x : Nat) (cs : Array Value) (D1 : Option Addr) (d : Nat) (L : List Rp) (q : Int) (W : World) : Prop where
  box : Bkk W x 27 cs
  own : OwL W w.heap.size D1 d L
  res : Bkk W w.heap.size 27 #[.int .i64 0, .int .i64 0, .int .i64 0, .int .i64 0, .int .i64 0, .slice none 0 0]
  rd : Reader W R A n c q
  gr : w.grownBy W (some R)
section
variable {w W W1 : World} {R : Nat} {A : Option Addr} {n c x : Nat} {cs : Array Value} {D1 : Option Addr} {d : Nat} {L : List Rp} {q q1 : Int}
theorem OwL.same {w w' : World} {lo : Nat} {A : Option Addr} {a : Nat} {L : List Rp} (h : OwL w lo A a L) (hk : ∀ k, (Value.slice A L.length a).ownBlock = some k → w'.heap[k]? = w.heap[k]?) : OwL w' lo A a L := own_same (show w.ownsRow _ _ _ _ _ _ from h) hk
theorem PlI.draw (h : PlI w R A n c x cs D1 d L q W) (hR : R < w.heap.size) (hx : w.heap.size < x) (hr : Reader W1 R A n c q1) (hg : W.grownBy W1 (some R)) : PlI w R A n c x cs D1 d L q1 W1 :=
  ⟨h.box.grown hg (fun e => by injection e with e; omega), h.own.same (fun k hk => hg.block k (h.own.ge k hk).2 (fun e => by injection e with e; have := (h.own.ge k hk).1; omega)), h.res.grown hg (fun e => by injection e with e; omega), hr, grownBy_trans h.gr hg⟩
theorem PlI.below (h : PlI w R A n c x cs D1 d L q W) (hb : Below W.heap.size W W1) : PlI w R A n c x cs D1 d L q W1 :=
  ⟨h.box.below hb, h.own.below hb, h.res.below hb, h.rd.below hb, grownBy_trans h.gr (Below.grownBy hb _)⟩
theorem PlI.put (h : PlI w R A n c x cs D1 d L q W) (hO : ∀ b off, A = some ⟨b, off, none⟩ → 0 < n → b < w.heap.size) (hR : R < w.heap.size) {y : Nat} {cy : Array Value} (hy : Bkk W y 27 cy) (hxy : x ≠ y) (hwy : w.heap.size < y) (j : Nat) (v : Value) : PlI w R A n c x cs D1 d L q (W.setCell ⟨y, j, none⟩ v) :=
  ⟨h.box.far hxy j v, h.own.box hy (by decide) j v, h.res.far (by omega) j v, h.rd.set w.heap.size y j v hO hR (by omega), grown_new h.gr (grownBy_set W y j v) (by omega)⟩
theorem PlI.set (h : PlI w R A n c x cs D1 d L q W) (hO : ∀ b off, A = some ⟨b, off, none⟩ → 0 < n → b < w.heap.size) (hR : R < w.heap.size) (hx : w.heap.size < x) (j : Nat) (v : Value) : PlI w R A n c x (cs.setIfInBounds j v) D1 d L q (W.setCell ⟨x, j, none⟩ v) :=
  ⟨h.box.set j v, h.own.box h.box (by decide) j v, h.res.far (by omega) j v, h.rd.set w.heap.size x j v hO hR (by omega), grown_new h.gr (grownBy_set W x j v) (by omega)⟩
theorem PlI.own' (h : PlI w R A n c x cs D1 d L q W) {A1 : Option Addr} {a1 : Nat} {L1 : List Rp} (ho : OwL W w.heap.size A1 a1 L1) : PlI w R A n c x cs A1 a1 L1 q W := ⟨h.box, ho, h.res, h.rd, h.gr⟩
theorem PlI.app (h : PlI w R A n c x cs D1 d L q W) (hO : ∀ b off, A = some ⟨b, off, none⟩ → 0 < n → b < w.heap.size) (hR : R < w.heap.size) {v' : Value} {r : Rp} (ho : W1.ownsRow w.heap.size 29 4 v' (L.length + 1) (L.flatMap Rp.cells ++ [r].flatMap Rp.cells)) (hg : W.grownBy W1 (Value.slice D1 L.length d).ownBlock) :
    ∃ D2 d2, v' = .slice D2 (L ++ [r]).length d2 ∧ PlI w R A n c x cs D2 d2 (L ++ [r]) q W1 := by
  obtain ⟨B', b', e, ow⟩ := OwL.push ho
  exact ⟨B', b', e, h.box.grown hg (fun e => h.own.apart h.box (by decide) e.symm), ow, h.res.grown hg (fun e => h.own.apart h.res (by decide) e.symm), h.rd.rowN hg hR hO (fun k hk => (h.own.ge k hk).1), grown_rowN h.gr hg (fun k hk => (h.own.ge k hk).1)⟩
end

set_option maxRecDepth 100000 in
set_option maxHeartbeats 8000000 in
theorem l20Player {w : World} {R : Nat} {A : Option Addr} {n c : Nat} {p : Int} (h : Reader w R A n c p) (hp : p ≤ 80000) :
    Calls Try.prog 31 #[.pointer (some ⟨R, 0, none⟩)] w fun e w' => ∃ (q0 : Rq) (D1 : Option Addr) (d : Nat) (L : List Rp), e = .returned (playerV q0 D1 L.length d) ∧ L.length ≤ 6 ∧ OwL w' w.heap.size D1 d L ∧ Drawn w R A n c p 50 w' := by
  obtain ⟨I, hi, hz0, hz1, hz2⟩ := parts_ofH infoReply
  have I1 := Lib.hid hi
  have I2 := Lib.hid hz0
  have I3 := Lib.hid hz1
  have I4 := Lib.hid hz2
  have hRlt := h.lt
  have hlo := h.lo
  have HOld := Lib.hid h.old
  have hb0 : Below w.heap.size w (w.alloc (.cells #[.int .i64 0, .int .i64 0, .int .i64 0, .int .i64 0, .int .i64 0, .slice none 0 0] 27)) := (Below.refl _ _).alloc (Nat.le_refl _) _
  have RD := Lib.hid (h.below hb0)
  have GR : Hid (w.grownBy (w.alloc (.cells #[.int .i64 0, .int .i64 0, .int .i64 0, .int .i64 0, .int .i64 0, .slice none 0 0] 27)) (some R)) := Below.grownBy hb0 (some R)
  have KZ : Hid (Bkk (w.alloc (.cells #[.int .i64 0, .int .i64 0, .int .i64 0, .int .i64 0, .int .i64 0, .slice none 0 0] 27)) w.heap.size 27 #[.int .i64 0, .int .i64 0, .int .i64 0, .int .i64 0, .int .i64 0, .slice none 0 0]) := Bkk.new _
  clear h hi hz0 hz1 hz2 hb0
  go_enter Try.func31, Try.ntmps31
  go_wp2_with (fail)
  refine (l20ReqK RD.out (by omega)).mono ?_
  rintro e wb ⟨rc, rn, ro, rx, ry, rfl, _, qb, qb0, qb1, hr, hgr⟩
  obtain ⟨q0, hq0⟩ : ∃ q0 : Rq, q0 = ⟨rc, rn, ro, rx, ry⟩ := ⟨_, rfl⟩
  have e1 : rc = q0.c := by rw [hq0]
  have e2 : rn = q0.n := by rw [hq0]
  have e3 : ro = q0.o := by rw [hq0]
  have e4 : rx = q0.x := by rw [hq0]
  have e5 : ry = q0.y := by rw [hq0]
  clear hq0
  subst e1 e2 e3 e4 e5
  have hb0 : Below wb.heap.size wb (wb.alloc (.cells #[.int .i64 q0.c, .int .i64 q0.n, .int .i64 q0.o, .int .i64 q0.x, .int .i64 q0.y, .slice none 0 0] 27)) := (Below.refl _ _).alloc (Nat.le_refl _) _
  have KZ := Lib.hid (KZ.out.grown hgr (fun e => by injection e with e; omega))
  have hx : w.heap.size < wb.heap.size := KZ.out.lt
  have LI : Hid (PlI w R A n c wb.heap.size #[.int .i64 q0.c, .int .i64 q0.n, .int .i64 q0.o, .int .i64 q0.x, .int .i64 q0.y, .slice none 0 0] none 0 [] qb (wb.alloc (.cells #[.int .i64 q0.c, .int .i64 q0.n, .int .i64 q0.o, .int .i64 q0.x, .int .i64 q0.y, .slice none 0 0] 27))) := ⟨Bkk.new _, OwL.nil _ _, KZ.out.below hb0, hr.below hb0, grownBy_trans (grownBy_trans GR.out hgr) (Below.grownBy hb0 (some R))⟩
  clear RD GR KZ hb0 hr hgr
  go_upto_region 2 with (fail)
  obtain ⟨x, hxx⟩ : ∃ X, X = wb.heap.size := ⟨_, rfl⟩
  obtain ⟨wc, hwc⟩ : ∃ X, X = wb.alloc (.cells #[.int .i64 q0.c, .int .i64 q0.n, .int .i64 q0.o, .int .i64 q0.x, .int .i64 q0.y, .slice none 0 0] 27) := ⟨_, rfl⟩
  rw [← hwc, ← hxx] at LI
  rw [← hwc, ← hxx]
  rw [← hxx] at hx
  clear hwc hxx
  go_wp2_with (fail)
  refine (pickR 6 LI.out.rd (by omega) (by omega) (by omega)).mono ?_
  rintro e wd ⟨m, m0, m1, rfl, qc, qc0, qc1, hr, hgr⟩
  have LI := Lib.hid (LI.out.draw hRlt hx hr hgr)
  clear hr hgr
  obtain ⟨m, rfl⟩ : ∃ M : Nat, m = (M : Int) := ⟨m.toNat, by omega⟩
  go_wp2
  go_loopw [4] (fun i wr => ∃ (k : Nat) (q : Int) (q0 : Rq) (D1 : Option Addr) (d : Nat) (L : List Rp), i = .int .i64 (k : Int) ∧ L.length + k ≤ 5 ∧ p ≤ q ∧ q + 5 * (k : Int) ≤ p + 31 ∧ Hid (PlI w R A n c x #[.int .i64 q0.c, .int .i64 q0.n, .int .i64 q0.o, .int .i64 q0.x, .int .i64 q0.y, .slice D1 L.length d] D1 d L q wr)) (fun i _ => (intOf i).toNat)
  case atStart => exact ⟨m, qc, q0, none, 0, [], rfl, by simp; omega, by omega, by omega, LI.out⟩
  case round =>
    clear LI
    obtain ⟨k0, q, q0, D1, d, L, rfl, hTk, hq0, hq1, LI⟩ := hrel
    rcases k0 with _ | k
    · go_wp2_with (fail)
      refine (pickR 14 LI.out.rd (by omega) (by omega) (by omega)).mono ?_
      rintro e we ⟨g, g0, g1, rfl, qe, qe0, qe1, hr, hgr⟩
      have LI := Lib.hid (LI.out.draw hRlt hx hr hgr)
      clear hr hgr
      by_cases h0 : g = 0
      · subst h0
        go_wp2_with (fail)
        refine (l20AnyReq LI.out.rd (by omega)).mono ?_
        rintro e wf ⟨g1, g2, g3, g4, g5, rfl, qf, qf0, qf1, hr, hgr⟩
        have LI := Lib.hid (LI.out.draw hRlt hx hr hgr)
        clear hr hgr
        have p0 : wf.cell? ⟨x, 0, none⟩ = some (.int .i64 q0.c) := LI.out.box.cell 0
        have p1 : wf.cell? ⟨x, 1, none⟩ = some (.int .i64 q0.n) := LI.out.box.cell 1
        have p2 : wf.cell? ⟨x, 2, none⟩ = some (.int .i64 q0.o) := LI.out.box.cell 2
        have p3 : wf.cell? ⟨x, 3, none⟩ = some (.int .i64 q0.x) := LI.out.box.cell 3
        have p4 : wf.cell? ⟨x, 4, none⟩ = some (.int .i64 q0.y) := LI.out.box.cell 4
        have p5 : wf.cell? ⟨x, 5, none⟩ = some (.slice D1 L.length d) := LI.out.box.cell 5
        have pf := LI.out.box.frozen
        have lp := LI.out.box.lt
        go_upto_region 12 with (fail)
        clear p0 p1 p2 p3 p4 p5 pf lp
        have LI : Hid (PlI w R A n c x #[.int .i64 g1, .int .i64 g2, .int .i64 g3, .int .i64 g4, .int .i64 g5, .slice D1 L.length d] D1 d L qf (((((wf.setCell ⟨x, 0, none⟩ (.int .i64 g1)).setCell ⟨x, 1, none⟩ (.int .i64 g2)).setCell ⟨x, 2, none⟩ (.int .i64 g3)).setCell ⟨x, 3, none⟩ (.int .i64 g4)).setCell ⟨x, 4, none⟩ (.int .i64 g5))) := (((((LI.out.set HOld.out hRlt hx 0 (.int .i64 g1)).set HOld.out hRlt hx 1 (.int .i64 g2)).set HOld.out hRlt hx 2 (.int .i64 g3)).set HOld.out hRlt hx 3 (.int .i64 g4)).set HOld.out hRlt hx 4 (.int .i64 g5))
        obtain ⟨w9, hw9⟩ : ∃ X, X = (((((wf.setCell ⟨x, 0, none⟩ (.int .i64 g1)).setCell ⟨x, 1, none⟩ (.int .i64 g2)).setCell ⟨x, 2, none⟩ (.int .i64 g3)).setCell ⟨x, 3, none⟩ (.int .i64 g4)).setCell ⟨x, 4, none⟩ (.int .i64 g5)) := ⟨_, rfl⟩
        rw [← hw9] at LI ⊢
        clear hw9
        have x0 : w9.cell? ⟨x, 0, none⟩ = some (.int .i64 (⟨g1, g2, g3, g4, g5⟩ : Rq).c) := LI.out.box.cell 0
        have x1 : w9.cell? ⟨x, 1, none⟩ = some (.int .i64 (⟨g1, g2, g3, g4, g5⟩ : Rq).n) := LI.out.box.cell 1
        have x2 : w9.cell? ⟨x, 2, none⟩ = some (.int .i64 (⟨g1, g2, g3, g4, g5⟩ : Rq).o) := LI.out.box.cell 2
        have x3 : w9.cell? ⟨x, 3, none⟩ = some (.int .i64 (⟨g1, g2, g3, g4, g5⟩ : Rq).x) := LI.out.box.cell 3
        have x4 : w9.cell? ⟨x, 4, none⟩ = some (.int .i64 (⟨g1, g2, g3, g4, g5⟩ : Rq).y) := LI.out.box.cell 4
        have x5 : w9.cell? ⟨x, 5, none⟩ = some (.slice D1 L.length d) := LI.out.box.cell 5
        have z0 : w9.cell? ⟨w.heap.size, 0, none⟩ = some (.int .i64 0) := LI.out.res.cell 0
        have z1 : w9.cell? ⟨w.heap.size, 1, none⟩ = some (.int .i64 0) := LI.out.res.cell 1
        have z2 : w9.cell? ⟨w.heap.size, 2, none⟩ = some (.int .i64 0) := LI.out.res.cell 2
        have z3 : w9.cell? ⟨w.heap.size, 3, none⟩ = some (.int .i64 0) := LI.out.res.cell 3
        have z4 : w9.cell? ⟨w.heap.size, 4, none⟩ = some (.int .i64 0) := LI.out.res.cell 4
        have z5 : w9.cell? ⟨w.heap.size, 5, none⟩ = some (.slice none 0 0) := LI.out.res.cell 5
        have zf := LI.out.res.frozen
        have lz := LI.out.res.lt
        have OG := Lib.hid ((((((LI.out.own.box LI.out.res (by decide) 0 (.int .i64 (⟨g1, g2, g3, g4, g5⟩ : Rq).c)).box (LI.out.res.set 0 (.int .i64 (⟨g1, g2, g3, g4, g5⟩ : Rq).c)) (by decide) 1 (.int .i64 (⟨g1, g2, g3, g4, g5⟩ : Rq).n)).box ((LI.out.res.set 0 (.int .i64 (⟨g1, g2, g3, g4, g5⟩ : Rq).c)).set 1 (.int .i64 (⟨g1, g2, g3, g4, g5⟩ : Rq).n)) (by decide) 2 (.int .i64 (⟨g1, g2, g3, g4, g5⟩ : Rq).o)).box (((LI.out.res.set 0 (.int .i64 (⟨g1, g2, g3, g4, g5⟩ : Rq).c)).set 1 (.int .i64 (⟨g1, g2, g3, g4, g5⟩ : Rq).n)).set 2 (.int .i64 (⟨g1, g2, g3, g4, g5⟩ : Rq).o)) (by decide) 3 (.int .i64 (⟨g1, g2, g3, g4, g5⟩ : Rq).x)).box ((((LI.out.res.set 0 (.int .i64 (⟨g1, g2, g3, g4, g5⟩ : Rq).c)).set 1 (.int .i64 (⟨g1, g2, g3, g4, g5⟩ : Rq).n)).set 2 (.int .i64 (⟨g1, g2, g3, g4, g5⟩ : Rq).o)).set 3 (.int .i64 (⟨g1, g2, g3, g4, g5⟩ : Rq).x)) (by decide) 4 (.int .i64 (⟨g1, g2, g3, g4, g5⟩ : Rq).y)).box (((((LI.out.res.set 0 (.int .i64 (⟨g1, g2, g3, g4, g5⟩ : Rq).c)).set 1 (.int .i64 (⟨g1, g2, g3, g4, g5⟩ : Rq).n)).set 2 (.int .i64 (⟨g1, g2, g3, g4, g5⟩ : Rq).o)).set 3 (.int .i64 (⟨g1, g2, g3, g4, g5⟩ : Rq).x)).set 4 (.int .i64 (⟨g1, g2, g3, g4, g5⟩ : Rq).y)) (by decide) 5 (.slice D1 L.length d))
        have DR := Lib.hid (((((((show Drawn w R A n c p 50 w9 from ⟨qf, by omega, by omega, LI.out.rd, LI.out.gr⟩).res HOld.out hRlt (Nat.le_refl _) 0 (.int .i64 (⟨g1, g2, g3, g4, g5⟩ : Rq).c)).res HOld.out hRlt (Nat.le_refl _) 1 (.int .i64 (⟨g1, g2, g3, g4, g5⟩ : Rq).n)).res HOld.out hRlt (Nat.le_refl _) 2 (.int .i64 (⟨g1, g2, g3, g4, g5⟩ : Rq).o)).res HOld.out hRlt (Nat.le_refl _) 3 (.int .i64 (⟨g1, g2, g3, g4, g5⟩ : Rq).x)).res HOld.out hRlt (Nat.le_refl _) 4 (.int .i64 (⟨g1, g2, g3, g4, g5⟩ : Rq).y)).res HOld.out hRlt (Nat.le_refl _) 5 (.slice D1 L.length d))
        clear LI
        go_wp2
        refine bodyPost_ret (v := playerV (⟨g1, g2, g3, g4, g5⟩ : Rq) D1 L.length d) (by simp [results, Try.results31, go_sem, z0, z1, z2, z3, z4, z5, zf]) rfl ⟨(⟨g1, g2, g3, g4, g5⟩ : Rq), D1, d, L, rfl, by omega, OG.out, DR.out⟩
      have e0 : (g == 0) = false := by simpa using h0
      by_cases h1 : g = 1
      · subst h1
        clear e0 h0
        go_upto_region 11 with (fail)
        refine wp_region_held_drew (S := fun W1 => W1.cell? ⟨x, 1, none⟩ = some (.int .i64 q0.n)) (by kernel_rfl) ((LI.out.below ((Below.refl _ _).drew)).box.cell 1) (fun hH => ?_)
        have LI := Lib.hid (LI.out.below (Below.refl _ _).drew)
        obtain ⟨w0, hw0⟩ : ∃ X, X = we.drew := ⟨_, rfl⟩
        rw [← hw0] at LI hH ⊢
        clear hw0
        refine takeD 0 36 (v := ?_) rfl rfl (by kernel_rfl) (by kernel_rfl) (by kernel_rfl) (fun _ _ _ h => h) (Or.inl ⟨by rfl, ?_⟩) (by assumption) ?_
        rotate_left
        · intro w1 hSw; go_simp; (try with_reducible rfl)
        (try simp only [Act.put, List.setIfInBounds_toArray, List.set_cons_zero, List.set_cons_succ])
        refine takeD 2 38 (v := ?_) rfl rfl (by kernel_rfl) (by kernel_rfl) (by kernel_rfl) (fun _ _ _ h => h) (Or.inl ⟨by rfl, ?_⟩) (by assumption) ?_
        rotate_left
        · intro w1 hSw; go_simp; (try with_reducible rfl)
        (try simp only [Act.put, List.setIfInBounds_toArray, List.set_cons_zero, List.set_cons_succ])
        refine takeD 3 39 (v := ?_) rfl rfl (by kernel_rfl) (by kernel_rfl) (by kernel_rfl) (fun _ _ _ h => h) (Or.inl ⟨by rfl, ?_⟩) (by assumption) ?_
        rotate_left
        · intro w1 hSw; go_simp; (try with_reducible rfl)
        (try simp only [Act.put, List.setIfInBounds_toArray, List.set_cons_zero, List.set_cons_succ])
        refine takeD 4 40 (v := ?_) rfl rfl (by kernel_rfl) (by kernel_rfl) (by kernel_rfl) (fun _ _ _ h => h) (Or.inl ⟨by rfl, ?_⟩) (by assumption) ?_
        rotate_left
        · intro w1 hSw; go_simp; (try with_reducible rfl)
        (try simp only [Act.put, List.setIfInBounds_toArray, List.set_cons_zero, List.set_cons_succ])
        refine takeD 5 41 (v := ?_) rfl rfl (by kernel_rfl) (by kernel_rfl) (by kernel_rfl) (fun _ _ _ h => h) (Or.inl ⟨by rfl, ?_⟩) (by assumption) ?_
        rotate_left
        · intro w1 hSw; go_simp; (try with_reducible rfl)
        (try simp only [Act.put, List.setIfInBounds_toArray, List.set_cons_zero, List.set_cons_succ])
        refine wpAnyH_ready (rs := [1, 6]) (by kernel_rfl) (by simp) ?_
        refine AllReadyH.cons rfl (fun KK hK => ?_) (AllReadyH.cons rfl (fun KK hK => ?_) AllReadyH.nil)
        · have p5 : w0.cell? ⟨x, 5, none⟩ = some (.slice D1 L.length d) := LI.out.box.cell 5
          go_simp
          refine hK.out _ _ (LI.out.box.cell 1) (fun hH => ?_)
          clear hK KK
          (try simp only [Act.put, List.setIfInBounds_toArray, List.set_cons_zero, List.set_cons_succ])
          clear p5
          refine wpAnyH_ready (rs := [6]) (by kernel_rfl) (by simp) ?_
          refine AllReadyH.cons rfl (fun KK hK => ?_) AllReadyH.nil
          go_simp
          refine (l20Reply q0.n LI.out.rd (by omega)).mono ?_
          rintro e wr18 ⟨r, rfl, qa, qa0, qa1, hr, hgr⟩
          have LI := Lib.hid (LI.out.draw hRlt hx hr hgr)
          clear hr hgr
          refine hK.out _ _ ((LI.out.box.cell 1)) (fun hH => ?_)
          clear hK KK
          (try simp only [Act.put, List.setIfInBounds_toArray, List.set_cons_zero, List.set_cons_succ])
          refine wpAnyH_ready (rs := [7]) (by kernel_rfl) (by simp) ?_
          refine AllReadyH.cons rfl (fun KK hK => ?_) AllReadyH.nil
          go_simp
          have LI := Lib.hid (LI.out.below ((Below.refl wr18.heap.size wr18).alloc (Nat.le_refl _) (.cells #[.int .i64 r.f, .int .i64 r.n, .int .i64 r.c, .int .i64 r.s] 29)))
          have HRd := Lib.hid (rp_one wr18 29 r)
          refine hK.out _ _ (LI.out.box.cell 1) (fun hH => ?_)
          clear hK KK
          (try simp only [Act.put, List.setIfInBounds_toArray, List.set_cons_zero, List.set_cons_succ])
          obtain ⟨pb, hpb⟩ : ∃ X, X = wr18.heap.size := ⟨_, rfl⟩
          obtain ⟨wB, hwB⟩ : ∃ X, X = wr18.alloc (.cells #[.int .i64 r.f, .int .i64 r.n, .int .i64 r.c, .int .i64 r.s] 29) := ⟨_, rfl⟩
          rw [← hwB] at LI HRd hH ⊢
          rw [← hpb] at HRd ⊢
          clear hwB hpb
          refine wpAnyH_ready (rs := [8]) (by kernel_rfl) (by simp) ?_
          refine AllReadyH.cons rfl (fun KK hK => ?_) AllReadyH.nil
          have hsz := LI.out.gr.size
          refine step_app (k := 4) (f := Rp.cells) (fun _ => rfl) (by rfl) _ _ 25 (by rfl) w.heap.size 29 I (.agg #[.int .i64 0, .int .i64 0, .int .i64 0, .int .i64 0]) 32 Try.underlying25 I1.out I2.out I3.out I4.out (by rfl) (by omega) (.slice D1 L.length d) L.length (L.flatMap Rp.cells) (by rfl) (show World.ownsRow _ _ _ _ _ _ _ from LI.out.own) (some ⟨pb, 0, none⟩) 1 1 [r] rfl (by rfl) HRd.out (fun h => by cases h) (reps_one _) (by unfold maxLen; omega) (by omega) hsz ?_
          intro v' wC ho hg hp
          obtain ⟨D2, d2, rfl, LJ⟩ := LI.out.app HOld.out hRlt ho hg
          have LI := Lib.hid LJ
          have HLT := Lib.hid (show (L ++ [r]).length = L.length + 1 by simp)
          clear ho hg hp LJ hsz HRd
          obtain ⟨L3, hL3⟩ : ∃ X, X = L ++ [r] := ⟨_, rfl⟩
          rw [← hL3] at LI HLT ⊢
          clear hL3
          refine hK.out _ _ (LI.out.box.cell 1) (fun hH => ?_)
          clear hK KK
          (try simp only [Act.put, List.setIfInBounds_toArray, List.set_cons_zero, List.set_cons_succ])
          refine takeD 9 45 (v := ?_) rfl rfl (by kernel_rfl) (by kernel_rfl) (by kernel_rfl) (fun _ _ _ h => h) (Or.inl ⟨by rfl, ?_⟩) (by assumption) ?_
          rotate_left
          · intro w1 hSw; go_simp; (try with_reducible rfl)
          (try simp only [Act.put, List.setIfInBounds_toArray, List.set_cons_zero, List.set_cons_succ])
          refine wpAnyH_ready (rs := [10]) (by kernel_rfl) (by simp) ?_
          refine AllReadyH.cons rfl (fun KK hK => ?_) AllReadyH.nil
          have p0 : wC.cell? ⟨x, 0, none⟩ = some (.int .i64 q0.c) := LI.out.box.cell 0
          have p1 : wC.cell? ⟨x, 1, none⟩ = some (.int .i64 q0.n) := LI.out.box.cell 1
          have p2 : wC.cell? ⟨x, 2, none⟩ = some (.int .i64 q0.o) := LI.out.box.cell 2
          have p3 : wC.cell? ⟨x, 3, none⟩ = some (.int .i64 q0.x) := LI.out.box.cell 3
          have p4 : wC.cell? ⟨x, 4, none⟩ = some (.int .i64 q0.y) := LI.out.box.cell 4
          have p5 : wC.cell? ⟨x, 5, none⟩ = some (.slice D1 L.length d) := LI.out.box.cell 5
          have pf := LI.out.box.frozen
          have lp := LI.out.box.lt
          go_simp
          have LI : Hid (PlI w R A n c x #[.int .i64 q0.c, .int .i64 q0.n, .int .i64 q0.o, .int .i64 q0.x, .int .i64 q0.y, .slice D2 L3.length d2] D2 d2 L3 qa (wC.setCell ⟨x, 5, none⟩ (.slice D2 L3.length d2))) := LI.out.set HOld.out hRlt hx 5 (.slice D2 L3.length d2)
          refine hK.out _ _ (LI.out.box.cell 1) (fun hH => ?_)
          clear hK KK
          (try simp only [Act.put, List.setIfInBounds_toArray, List.set_cons_zero, List.set_cons_succ])
          clear p0 p1 p2 p3 p4 p5 pf lp
          refine wpAnyH_done (by kernel_rfl) ?_ _
          obtain ⟨wD, hwD⟩ : ∃ X, X = wC.setCell ⟨x, 5, none⟩ (.slice D2 L3.length d2) := ⟨_, rfl⟩
          rw [← hwD] at LI ⊢
          clear hwD
          have hl3 : L3.length ≤ L.length + 1 := by have := HLT.out; omega
          clear HLT
          have x0 : wD.cell? ⟨x, 0, none⟩ = some (.int .i64 q0.c) := LI.out.box.cell 0
          have x1 : wD.cell? ⟨x, 1, none⟩ = some (.int .i64 q0.n) := LI.out.box.cell 1
          have x2 : wD.cell? ⟨x, 2, none⟩ = some (.int .i64 q0.o) := LI.out.box.cell 2
          have x3 : wD.cell? ⟨x, 3, none⟩ = some (.int .i64 q0.x) := LI.out.box.cell 3
          have x4 : wD.cell? ⟨x, 4, none⟩ = some (.int .i64 q0.y) := LI.out.box.cell 4
          have x5 : wD.cell? ⟨x, 5, none⟩ = some (.slice D2 L3.length d2) := LI.out.box.cell 5
          have z0 : wD.cell? ⟨w.heap.size, 0, none⟩ = some (.int .i64 0) := LI.out.res.cell 0
          have z1 : wD.cell? ⟨w.heap.size, 1, none⟩ = some (.int .i64 0) := LI.out.res.cell 1
          have z2 : wD.cell? ⟨w.heap.size, 2, none⟩ = some (.int .i64 0) := LI.out.res.cell 2
          have z3 : wD.cell? ⟨w.heap.size, 3, none⟩ = some (.int .i64 0) := LI.out.res.cell 3
          have z4 : wD.cell? ⟨w.heap.size, 4, none⟩ = some (.int .i64 0) := LI.out.res.cell 4
          have z5 : wD.cell? ⟨w.heap.size, 5, none⟩ = some (.slice none 0 0) := LI.out.res.cell 5
          have zf := LI.out.res.frozen
          have lz := LI.out.res.lt
          have OG := Lib.hid ((((((LI.out.own.box LI.out.res (by decide) 0 (.int .i64 q0.c)).box (LI.out.res.set 0 (.int .i64 q0.c)) (by decide) 1 (.int .i64 q0.n)).box ((LI.out.res.set 0 (.int .i64 q0.c)).set 1 (.int .i64 q0.n)) (by decide) 2 (.int .i64 q0.o)).box (((LI.out.res.set 0 (.int .i64 q0.c)).set 1 (.int .i64 q0.n)).set 2 (.int .i64 q0.o)) (by decide) 3 (.int .i64 q0.x)).box ((((LI.out.res.set 0 (.int .i64 q0.c)).set 1 (.int .i64 q0.n)).set 2 (.int .i64 q0.o)).set 3 (.int .i64 q0.x)) (by decide) 4 (.int .i64 q0.y)).box (((((LI.out.res.set 0 (.int .i64 q0.c)).set 1 (.int .i64 q0.n)).set 2 (.int .i64 q0.o)).set 3 (.int .i64 q0.x)).set 4 (.int .i64 q0.y)) (by decide) 5 (.slice D2 L3.length d2))
          have DR := Lib.hid (((((((show Drawn w R A n c p 50 wD from ⟨qa, by omega, by omega, LI.out.rd, LI.out.gr⟩).res HOld.out hRlt (Nat.le_refl _) 0 (.int .i64 q0.c)).res HOld.out hRlt (Nat.le_refl _) 1 (.int .i64 q0.n)).res HOld.out hRlt (Nat.le_refl _) 2 (.int .i64 q0.o)).res HOld.out hRlt (Nat.le_refl _) 3 (.int .i64 q0.x)).res HOld.out hRlt (Nat.le_refl _) 4 (.int .i64 q0.y)).res HOld.out hRlt (Nat.le_refl _) 5 (.slice D2 L3.length d2))
          clear LI
          go_wp2
          refine bodyPost_ret (v := playerV q0 D2 L3.length d2) (by simp [results, Try.results31, go_sem, z0, z1, z2, z3, z4, z5, zf]) rfl ⟨q0, D2, d2, L3, rfl, by omega, OG.out, DR.out⟩
        · go_simp
          refine (l20Reply q0.n LI.out.rd (by omega)).mono ?_
          rintro e wr19 ⟨r, rfl, qa, qa0, qa1, hr, hgr⟩
          have LI := Lib.hid (LI.out.draw hRlt hx hr hgr)
          clear hr hgr
          refine hK.out _ _ ((LI.out.box.cell 1)) (fun hH => ?_)
          clear hK KK
          (try simp only [Act.put, List.setIfInBounds_toArray, List.set_cons_zero, List.set_cons_succ])
          refine wpAnyH_ready (rs := [1, 7]) (by kernel_rfl) (by simp) ?_
          refine AllReadyH.cons rfl (fun KK hK => ?_) (AllReadyH.cons rfl (fun KK hK => ?_) AllReadyH.nil)
          · have p5 : wr19.cell? ⟨x, 5, none⟩ = some (.slice D1 L.length d) := LI.out.box.cell 5
            go_simp
            refine hK.out _ _ (LI.out.box.cell 1) (fun hH => ?_)
            clear hK KK
            (try simp only [Act.put, List.setIfInBounds_toArray, List.set_cons_zero, List.set_cons_succ])
            clear p5
            refine wpAnyH_ready (rs := [7]) (by kernel_rfl) (by simp) ?_
            refine AllReadyH.cons rfl (fun KK hK => ?_) AllReadyH.nil
            go_simp
            have LI := Lib.hid (LI.out.below ((Below.refl wr19.heap.size wr19).alloc (Nat.le_refl _) (.cells #[.int .i64 r.f, .int .i64 r.n, .int .i64 r.c, .int .i64 r.s] 29)))
            have HRd := Lib.hid (rp_one wr19 29 r)
            refine hK.out _ _ (LI.out.box.cell 1) (fun hH => ?_)
            clear hK KK
            (try simp only [Act.put, List.setIfInBounds_toArray, List.set_cons_zero, List.set_cons_succ])
            obtain ⟨pb, hpb⟩ : ∃ X, X = wr19.heap.size := ⟨_, rfl⟩
            obtain ⟨wB, hwB⟩ : ∃ X, X = wr19.alloc (.cells #[.int .i64 r.f, .int .i64 r.n, .int .i64 r.c, .int .i64 r.s] 29) := ⟨_, rfl⟩
            rw [← hwB] at LI HRd hH ⊢
            rw [← hpb] at HRd ⊢
            clear hwB hpb
            refine wpAnyH_ready (rs := [8]) (by kernel_rfl) (by simp) ?_
            refine AllReadyH.cons rfl (fun KK hK => ?_) AllReadyH.nil
            have hsz := LI.out.gr.size
            refine step_app (k := 4) (f := Rp.cells) (fun _ => rfl) (by rfl) _ _ 25 (by rfl) w.heap.size 29 I (.agg #[.int .i64 0, .int .i64 0, .int .i64 0, .int .i64 0]) 32 Try.underlying25 I1.out I2.out I3.out I4.out (by rfl) (by omega) (.slice D1 L.length d) L.length (L.flatMap Rp.cells) (by rfl) (show World.ownsRow _ _ _ _ _ _ _ from LI.out.own) (some ⟨pb, 0, none⟩) 1 1 [r] rfl (by rfl) HRd.out (fun h => by cases h) (reps_one _) (by unfold maxLen; omega) (by omega) hsz ?_
            intro v' wC ho hg hp
            obtain ⟨D2, d2, rfl, LJ⟩ := LI.out.app HOld.out hRlt ho hg
            have LI := Lib.hid LJ
            have HLT := Lib.hid (show (L ++ [r]).length = L.length + 1 by simp)
            clear ho hg hp LJ hsz HRd
            obtain ⟨L3, hL3⟩ : ∃ X, X = L ++ [r] := ⟨_, rfl⟩
            rw [← hL3] at LI HLT ⊢
            clear hL3
            refine hK.out _ _ (LI.out.box.cell 1) (fun hH => ?_)
            clear hK KK
            (try simp only [Act.put, List.setIfInBounds_toArray, List.set_cons_zero, List.set_cons_succ])
            refine takeD 9 45 (v := ?_) rfl rfl (by kernel_rfl) (by kernel_rfl) (by kernel_rfl) (fun _ _ _ h => h) (Or.inl ⟨by rfl, ?_⟩) (by assumption) ?_
            rotate_left
            · intro w1 hSw; go_simp; (try with_reducible rfl)
            (try simp only [Act.put, List.setIfInBounds_toArray, List.set_cons_zero, List.set_cons_succ])
            refine wpAnyH_ready (rs := [10]) (by kernel_rfl) (by simp) ?_
            refine AllReadyH.cons rfl (fun KK hK => ?_) AllReadyH.nil
            have p0 : wC.cell? ⟨x, 0, none⟩ = some (.int .i64 q0.c) := LI.out.box.cell 0
            have p1 : wC.cell? ⟨x, 1, none⟩ = some (.int .i64 q0.n) := LI.out.box.cell 1
            have p2 : wC.cell? ⟨x, 2, none⟩ = some (.int .i64 q0.o) := LI.out.box.cell 2
            have p3 : wC.cell? ⟨x, 3, none⟩ = some (.int .i64 q0.x) := LI.out.box.cell 3
            have p4 : wC.cell? ⟨x, 4, none⟩ = some (.int .i64 q0.y) := LI.out.box.cell 4
            have p5 : wC.cell? ⟨x, 5, none⟩ = some (.slice D1 L.length d) := LI.out.box.cell 5
            have pf := LI.out.box.frozen
            have lp := LI.out.box.lt
            go_simp
            have LI : Hid (PlI w R A n c x #[.int .i64 q0.c, .int .i64 q0.n, .int .i64 q0.o, .int .i64 q0.x, .int .i64 q0.y, .slice D2 L3.length d2] D2 d2 L3 qa (wC.setCell ⟨x, 5, none⟩ (.slice D2 L3.length d2))) := LI.out.set HOld.out hRlt hx 5 (.slice D2 L3.length d2)
            refine hK.out _ _ (LI.out.box.cell 1) (fun hH => ?_)
            clear hK KK
            (try simp only [Act.put, List.setIfInBounds_toArray, List.set_cons_zero, List.set_cons_succ])
            clear p0 p1 p2 p3 p4 p5 pf lp
            refine wpAnyH_done (by kernel_rfl) ?_ _
            obtain ⟨wD, hwD⟩ : ∃ X, X = wC.setCell ⟨x, 5, none⟩ (.slice D2 L3.length d2) := ⟨_, rfl⟩
            rw [← hwD] at LI ⊢
            clear hwD
            have hl3 : L3.length ≤ L.length + 1 := by have := HLT.out; omega
            clear HLT
            have x0 : wD.cell? ⟨x, 0, none⟩ = some (.int .i64 q0.c) := LI.out.box.cell 0
            have x1 : wD.cell? ⟨x, 1, none⟩ = some (.int .i64 q0.n) := LI.out.box.cell 1
            have x2 : wD.cell? ⟨x, 2, none⟩ = some (.int .i64 q0.o) := LI.out.box.cell 2
            have x3 : wD.cell? ⟨x, 3, none⟩ = some (.int .i64 q0.x) := LI.out.box.cell 3
            have x4 : wD.cell? ⟨x, 4, none⟩ = some (.int .i64 q0.y) := LI.out.box.cell 4
            have x5 : wD.cell? ⟨x, 5, none⟩ = some (.slice D2 L3.length d2) := LI.out.box.cell 5
            have z0 : wD.cell? ⟨w.heap.size, 0, none⟩ = some (.int .i64 0) := LI.out.res.cell 0
            have z1 : wD.cell? ⟨w.heap.size, 1, none⟩ = some (.int .i64 0) := LI.out.res.cell 1
            have z2 : wD.cell? ⟨w.heap.size, 2, none⟩ = some (.int .i64 0) := LI.out.res.cell 2
            have z3 : wD.cell? ⟨w.heap.size, 3, none⟩ = some (.int .i64 0) := LI.out.res.cell 3
            have z4 : wD.cell? ⟨w.heap.size, 4, none⟩ = some (.int .i64 0) := LI.out.res.cell 4
            have z5 : wD.cell? ⟨w.heap.size, 5, none⟩ = some (.slice none 0 0) := LI.out.res.cell 5
            have zf := LI.out.res.frozen
            have lz := LI.out.res.lt
            have OG := Lib.hid ((((((LI.out.own.box LI.out.res (by decide) 0 (.int .i64 q0.c)).box (LI.out.res.set 0 (.int .i64 q0.c)) (by decide) 1 (.int .i64 q0.n)).box ((LI.out.res.set 0 (.int .i64 q0.c)).set 1 (.int .i64 q0.n)) (by decide) 2 (.int .i64 q0.o)).box (((LI.out.res.set 0 (.int .i64 q0.c)).set 1 (.int .i64 q0.n)).set 2 (.int .i64 q0.o)) (by decide) 3 (.int .i64 q0.x)).box ((((LI.out.res.set 0 (.int .i64 q0.c)).set 1 (.int .i64 q0.n)).set 2 (.int .i64 q0.o)).set 3 (.int .i64 q0.x)) (by decide) 4 (.int .i64 q0.y)).box (((((LI.out.res.set 0 (.int .i64 q0.c)).set 1 (.int .i64 q0.n)).set 2 (.int .i64 q0.o)).set 3 (.int .i64 q0.x)).set 4 (.int .i64 q0.y)) (by decide) 5 (.slice D2 L3.length d2))
            have DR := Lib.hid (((((((show Drawn w R A n c p 50 wD from ⟨qa, by omega, by omega, LI.out.rd, LI.out.gr⟩).res HOld.out hRlt (Nat.le_refl _) 0 (.int .i64 q0.c)).res HOld.out hRlt (Nat.le_refl _) 1 (.int .i64 q0.n)).res HOld.out hRlt (Nat.le_refl _) 2 (.int .i64 q0.o)).res HOld.out hRlt (Nat.le_refl _) 3 (.int .i64 q0.x)).res HOld.out hRlt (Nat.le_refl _) 4 (.int .i64 q0.y)).res HOld.out hRlt (Nat.le_refl _) 5 (.slice D2 L3.length d2))
            clear LI
            go_wp2
            refine bodyPost_ret (v := playerV q0 D2 L3.length d2) (by simp [results, Try.results31, go_sem, z0, z1, z2, z3, z4, z5, zf]) rfl ⟨q0, D2, d2, L3, rfl, by omega, OG.out, DR.out⟩
          · go_simp
            have LI := Lib.hid (LI.out.below ((Below.refl wr19.heap.size wr19).alloc (Nat.le_refl _) (.cells #[.int .i64 r.f, .int .i64 r.n, .int .i64 r.c, .int .i64 r.s] 29)))
            have HRd := Lib.hid (rp_one wr19 29 r)
            refine hK.out _ _ (LI.out.box.cell 1) (fun hH => ?_)
            clear hK KK
            (try simp only [Act.put, List.setIfInBounds_toArray, List.set_cons_zero, List.set_cons_succ])
            obtain ⟨pb, hpb⟩ : ∃ X, X = wr19.heap.size := ⟨_, rfl⟩
            obtain ⟨wB, hwB⟩ : ∃ X, X = wr19.alloc (.cells #[.int .i64 r.f, .int .i64 r.n, .int .i64 r.c, .int .i64 r.s] 29) := ⟨_, rfl⟩
            rw [← hwB] at LI HRd hH ⊢
            rw [← hpb] at HRd ⊢
            clear hwB hpb
            refine wpAnyH_ready (rs := [1]) (by kernel_rfl) (by simp) ?_
            refine AllReadyH.cons rfl (fun KK hK => ?_) AllReadyH.nil
            have p5 : wB.cell? ⟨x, 5, none⟩ = some (.slice D1 L.length d) := LI.out.box.cell 5
            go_simp
            refine hK.out _ _ (LI.out.box.cell 1) (fun hH => ?_)
            clear hK KK
            (try simp only [Act.put, List.setIfInBounds_toArray, List.set_cons_zero, List.set_cons_succ])
            clear p5
            refine wpAnyH_ready (rs := [8]) (by kernel_rfl) (by simp) ?_
            refine AllReadyH.cons rfl (fun KK hK => ?_) AllReadyH.nil
            have hsz := LI.out.gr.size
            refine step_app (k := 4) (f := Rp.cells) (fun _ => rfl) (by rfl) _ _ 25 (by rfl) w.heap.size 29 I (.agg #[.int .i64 0, .int .i64 0, .int .i64 0, .int .i64 0]) 32 Try.underlying25 I1.out I2.out I3.out I4.out (by rfl) (by omega) (.slice D1 L.length d) L.length (L.flatMap Rp.cells) (by rfl) (show World.ownsRow _ _ _ _ _ _ _ from LI.out.own) (some ⟨pb, 0, none⟩) 1 1 [r] rfl (by rfl) HRd.out (fun h => by cases h) (reps_one _) (by unfold maxLen; omega) (by omega) hsz ?_
            intro v' wC ho hg hp
            obtain ⟨D2, d2, rfl, LJ⟩ := LI.out.app HOld.out hRlt ho hg
            have LI := Lib.hid LJ
            have HLT := Lib.hid (show (L ++ [r]).length = L.length + 1 by simp)
            clear ho hg hp LJ hsz HRd
            obtain ⟨L3, hL3⟩ : ∃ X, X = L ++ [r] := ⟨_, rfl⟩
            rw [← hL3] at LI HLT ⊢
            clear hL3
            refine hK.out _ _ (LI.out.box.cell 1) (fun hH => ?_)
            clear hK KK
            (try simp only [Act.put, List.setIfInBounds_toArray, List.set_cons_zero, List.set_cons_succ])
            refine takeD 9 45 (v := ?_) rfl rfl (by kernel_rfl) (by kernel_rfl) (by kernel_rfl) (fun _ _ _ h => h) (Or.inl ⟨by rfl, ?_⟩) (by assumption) ?_
            rotate_left
            · intro w1 hSw; go_simp; (try with_reducible rfl)
            (try simp only [Act.put, List.setIfInBounds_toArray, List.set_cons_zero, List.set_cons_succ])
            refine wpAnyH_ready (rs := [10]) (by kernel_rfl) (by simp) ?_
            refine AllReadyH.cons rfl (fun KK hK => ?_) AllReadyH.nil
            have p0 : wC.cell? ⟨x, 0, none⟩ = some (.int .i64 q0.c) := LI.out.box.cell 0
            have p1 : wC.cell? ⟨x, 1, none⟩ = some (.int .i64 q0.n) := LI.out.box.cell 1
            have p2 : wC.cell? ⟨x, 2, none⟩ = some (.int .i64 q0.o) := LI.out.box.cell 2
            have p3 : wC.cell? ⟨x, 3, none⟩ = some (.int .i64 q0.x) := LI.out.box.cell 3
            have p4 : wC.cell? ⟨x, 4, none⟩ = some (.int .i64 q0.y) := LI.out.box.cell 4
            have p5 : wC.cell? ⟨x, 5, none⟩ = some (.slice D1 L.length d) := LI.out.box.cell 5
            have pf := LI.out.box.frozen
            have lp := LI.out.box.lt
            go_simp
            have LI : Hid (PlI w R A n c x #[.int .i64 q0.c, .int .i64 q0.n, .int .i64 q0.o, .int .i64 q0.x, .int .i64 q0.y, .slice D2 L3.length d2] D2 d2 L3 qa (wC.setCell ⟨x, 5, none⟩ (.slice D2 L3.length d2))) := LI.out.set HOld.out hRlt hx 5 (.slice D2 L3.length d2)
            refine hK.out _ _ (LI.out.box.cell 1) (fun hH => ?_)
            clear hK KK
            (try simp only [Act.put, List.setIfInBounds_toArray, List.set_cons_zero, List.set_cons_succ])
            clear p0 p1 p2 p3 p4 p5 pf lp
            refine wpAnyH_done (by kernel_rfl) ?_ _
            obtain ⟨wD, hwD⟩ : ∃ X, X = wC.setCell ⟨x, 5, none⟩ (.slice D2 L3.length d2) := ⟨_, rfl⟩
            rw [← hwD] at LI ⊢
            clear hwD
            have hl3 : L3.length ≤ L.length + 1 := by have := HLT.out; omega
            clear HLT
            have x0 : wD.cell? ⟨x, 0, none⟩ = some (.int .i64 q0.c) := LI.out.box.cell 0
            have x1 : wD.cell? ⟨x, 1, none⟩ = some (.int .i64 q0.n) := LI.out.box.cell 1
            have x2 : wD.cell? ⟨x, 2, none⟩ = some (.int .i64 q0.o) := LI.out.box.cell 2
            have x3 : wD.cell? ⟨x, 3, none⟩ = some (.int .i64 q0.x) := LI.out.box.cell 3
            have x4 : wD.cell? ⟨x, 4, none⟩ = some (.int .i64 q0.y) := LI.out.box.cell 4
            have x5 : wD.cell? ⟨x, 5, none⟩ = some (.slice D2 L3.length d2) := LI.out.box.cell 5
            have z0 : wD.cell? ⟨w.heap.size, 0, none⟩ = some (.int .i64 0) := LI.out.res.cell 0
            have z1 : wD.cell? ⟨w.heap.size, 1, none⟩ = some (.int .i64 0) := LI.out.res.cell 1
            have z2 : wD.cell? ⟨w.heap.size, 2, none⟩ = some (.int .i64 0) := LI.out.res.cell 2
            have z3 : wD.cell? ⟨w.heap.size, 3, none⟩ = some (.int .i64 0) := LI.out.res.cell 3
            have z4 : wD.cell? ⟨w.heap.size, 4, none⟩ = some (.int .i64 0) := LI.out.res.cell 4
            have z5 : wD.cell? ⟨w.heap.size, 5, none⟩ = some (.slice none 0 0) := LI.out.res.cell 5
            have zf := LI.out.res.frozen
            have lz := LI.out.res.lt
            have OG := Lib.hid ((((((LI.out.own.box LI.out.res (by decide) 0 (.int .i64 q0.c)).box (LI.out.res.set 0 (.int .i64 q0.c)) (by decide) 1 (.int .i64 q0.n)).box ((LI.out.res.set 0 (.int .i64 q0.c)).set 1 (.int .i64 q0.n)) (by decide) 2 (.int .i64 q0.o)).box (((LI.out.res.set 0 (.int .i64 q0.c)).set 1 (.int .i64 q0.n)).set 2 (.int .i64 q0.o)) (by decide) 3 (.int .i64 q0.x)).box ((((LI.out.res.set 0 (.int .i64 q0.c)).set 1 (.int .i64 q0.n)).set 2 (.int .i64 q0.o)).set 3 (.int .i64 q0.x)) (by decide) 4 (.int .i64 q0.y)).box (((((LI.out.res.set 0 (.int .i64 q0.c)).set 1 (.int .i64 q0.n)).set 2 (.int .i64 q0.o)).set 3 (.int .i64 q0.x)).set 4 (.int .i64 q0.y)) (by decide) 5 (.slice D2 L3.length d2))
            have DR := Lib.hid (((((((show Drawn w R A n c p 50 wD from ⟨qa, by omega, by omega, LI.out.rd, LI.out.gr⟩).res HOld.out hRlt (Nat.le_refl _) 0 (.int .i64 q0.c)).res HOld.out hRlt (Nat.le_refl _) 1 (.int .i64 q0.n)).res HOld.out hRlt (Nat.le_refl _) 2 (.int .i64 q0.o)).res HOld.out hRlt (Nat.le_refl _) 3 (.int .i64 q0.x)).res HOld.out hRlt (Nat.le_refl _) 4 (.int .i64 q0.y)).res HOld.out hRlt (Nat.le_refl _) 5 (.slice D2 L3.length d2))
            clear LI
            go_wp2
            refine bodyPost_ret (v := playerV q0 D2 L3.length d2) (by simp [results, Try.results31, go_sem, z0, z1, z2, z3, z4, z5, zf]) rfl ⟨q0, D2, d2, L3, rfl, by omega, OG.out, DR.out⟩
      have e1 : (g == 1) = false := by simpa using h1
      clear h0 h1
      have x0 : we.cell? ⟨x, 0, none⟩ = some (.int .i64 q0.c) := LI.out.box.cell 0
      have x1 : we.cell? ⟨x, 1, none⟩ = some (.int .i64 q0.n) := LI.out.box.cell 1
      have x2 : we.cell? ⟨x, 2, none⟩ = some (.int .i64 q0.o) := LI.out.box.cell 2
      have x3 : we.cell? ⟨x, 3, none⟩ = some (.int .i64 q0.x) := LI.out.box.cell 3
      have x4 : we.cell? ⟨x, 4, none⟩ = some (.int .i64 q0.y) := LI.out.box.cell 4
      have x5 : we.cell? ⟨x, 5, none⟩ = some (.slice D1 L.length d) := LI.out.box.cell 5
      have z0 : we.cell? ⟨w.heap.size, 0, none⟩ = some (.int .i64 0) := LI.out.res.cell 0
      have z1 : we.cell? ⟨w.heap.size, 1, none⟩ = some (.int .i64 0) := LI.out.res.cell 1
      have z2 : we.cell? ⟨w.heap.size, 2, none⟩ = some (.int .i64 0) := LI.out.res.cell 2
      have z3 : we.cell? ⟨w.heap.size, 3, none⟩ = some (.int .i64 0) := LI.out.res.cell 3
      have z4 : we.cell? ⟨w.heap.size, 4, none⟩ = some (.int .i64 0) := LI.out.res.cell 4
      have z5 : we.cell? ⟨w.heap.size, 5, none⟩ = some (.slice none 0 0) := LI.out.res.cell 5
      have zf := LI.out.res.frozen
      have lz := LI.out.res.lt
      have OG := Lib.hid ((((((LI.out.own.box LI.out.res (by decide) 0 (.int .i64 q0.c)).box (LI.out.res.set 0 (.int .i64 q0.c)) (by decide) 1 (.int .i64 q0.n)).box ((LI.out.res.set 0 (.int .i64 q0.c)).set 1 (.int .i64 q0.n)) (by decide) 2 (.int .i64 q0.o)).box (((LI.out.res.set 0 (.int .i64 q0.c)).set 1 (.int .i64 q0.n)).set 2 (.int .i64 q0.o)) (by decide) 3 (.int .i64 q0.x)).box ((((LI.out.res.set 0 (.int .i64 q0.c)).set 1 (.int .i64 q0.n)).set 2 (.int .i64 q0.o)).set 3 (.int .i64 q0.x)) (by decide) 4 (.int .i64 q0.y)).box (((((LI.out.res.set 0 (.int .i64 q0.c)).set 1 (.int .i64 q0.n)).set 2 (.int .i64 q0.o)).set 3 (.int .i64 q0.x)).set 4 (.int .i64 q0.y)) (by decide) 5 (.slice D1 L.length d))
      have DR := Lib.hid (((((((show Drawn w R A n c p 50 we from ⟨qe, by omega, by omega, LI.out.rd, LI.out.gr⟩).res HOld.out hRlt (Nat.le_refl _) 0 (.int .i64 q0.c)).res HOld.out hRlt (Nat.le_refl _) 1 (.int .i64 q0.n)).res HOld.out hRlt (Nat.le_refl _) 2 (.int .i64 q0.o)).res HOld.out hRlt (Nat.le_refl _) 3 (.int .i64 q0.x)).res HOld.out hRlt (Nat.le_refl _) 4 (.int .i64 q0.y)).res HOld.out hRlt (Nat.le_refl _) 5 (.slice D1 L.length d))
      clear LI
      go_wp2
      refine bodyPost_ret (v := playerV q0 D1 L.length d) (by simp [results, Try.results31, go_sem, z0, z1, z2, z3, z4, z5, zf]) rfl ⟨q0, D1, d, L, rfl, by omega, OG.out, DR.out⟩
    · have i0 : decide ((0 : Int) < ((k + 1 : Nat) : Int)) = true := decide_eq_true (by omega)
      go_upto_region 5 with (fail)
      refine wp_region_held_drew (S := fun W1 => Bkk W1 x 27 #[.int .i64 q0.c, .int .i64 q0.n, .int .i64 q0.o, .int .i64 q0.x, .int .i64 q0.y, .slice D1 L.length d]) (by kernel_rfl) (LI.out.below ((Below.refl _ _).drew)).box (fun hH => ?_)
      have LI := Lib.hid (LI.out.below (Below.refl _ _).drew)
      obtain ⟨w0, hw0⟩ : ∃ X, X = wr.drew := ⟨_, rfl⟩
      rw [← hw0] at LI hH ⊢
      clear hw0
      refine takeD 0 17 (v := ?_) rfl rfl (by kernel_rfl) (by kernel_rfl) (by kernel_rfl) (fun _ _ _ h => h) (Or.inl ⟨by rfl, ?_⟩) (by assumption) ?_
      rotate_left
      · intro w1 hSw; have c0 := hSw.cell 0; have c1 := hSw.cell 1; have c2 := hSw.cell 2; have c3 := hSw.cell 3; have c4 := hSw.cell 4; have c5 := hSw.cell 5; go_simp; (try with_reducible rfl)
      (try simp only [Act.put, List.setIfInBounds_toArray, List.set_cons_zero, List.set_cons_succ])
      refine takeD 1 18 (v := ?_) rfl rfl (by kernel_rfl) (by kernel_rfl) (by kernel_rfl) (fun _ _ _ h => h) (Or.inl ⟨by rfl, ?_⟩) (by assumption) ?_
      rotate_left
      · intro w1 hSw; have c0 := hSw.cell 0; have c1 := hSw.cell 1; have c2 := hSw.cell 2; have c3 := hSw.cell 3; have c4 := hSw.cell 4; have c5 := hSw.cell 5; go_simp; (try with_reducible rfl)
      (try simp only [Act.put, List.setIfInBounds_toArray, List.set_cons_zero, List.set_cons_succ])
      refine takeD 2 19 (v := ?_) rfl rfl (by kernel_rfl) (by kernel_rfl) (by kernel_rfl) (fun _ _ _ h => h) (Or.inl ⟨by rfl, ?_⟩) (by assumption) ?_
      rotate_left
      · intro w1 hSw; have c0 := hSw.cell 0; have c1 := hSw.cell 1; have c2 := hSw.cell 2; have c3 := hSw.cell 3; have c4 := hSw.cell 4; have c5 := hSw.cell 5; go_simp; (try with_reducible rfl)
      (try simp only [Act.put, List.setIfInBounds_toArray, List.set_cons_zero, List.set_cons_succ])
      refine takeD 3 20 (v := ?_) rfl rfl (by kernel_rfl) (by kernel_rfl) (by kernel_rfl) (fun _ _ _ h => h) (Or.inl ⟨by rfl, ?_⟩) (by assumption) ?_
      rotate_left
      · intro w1 hSw; have c0 := hSw.cell 0; have c1 := hSw.cell 1; have c2 := hSw.cell 2; have c3 := hSw.cell 3; have c4 := hSw.cell 4; have c5 := hSw.cell 5; go_simp; (try with_reducible rfl)
      (try simp only [Act.put, List.setIfInBounds_toArray, List.set_cons_zero, List.set_cons_succ])
      refine takeD 4 21 (v := ?_) rfl rfl (by kernel_rfl) (by kernel_rfl) (by kernel_rfl) (fun _ _ _ h => h) (Or.inl ⟨by rfl, ?_⟩) (by assumption) ?_
      rotate_left
      · intro w1 hSw; have c0 := hSw.cell 0; have c1 := hSw.cell 1; have c2 := hSw.cell 2; have c3 := hSw.cell 3; have c4 := hSw.cell 4; have c5 := hSw.cell 5; go_simp; (try with_reducible rfl)
      (try simp only [Act.put, List.setIfInBounds_toArray, List.set_cons_zero, List.set_cons_succ])
      refine wpAnyH_ready (rs := [5, 10]) (by kernel_rfl) (by simp) ?_
      refine AllReadyH.cons rfl (fun KK hK => ?_) (AllReadyH.cons rfl (fun KK hK => ?_) AllReadyH.nil)
      · go_simp
        refine (l20Reply q0.n LI.out.rd (by omega)).mono ?_
        rintro e wr1 ⟨r, rfl, qa, qa0, qa1, hr, hgr⟩
        have LI := Lib.hid (LI.out.draw hRlt hx hr hgr)
        clear hr hgr
        refine hK.out _ _ LI.out.box (fun hH => ?_)
        clear hK KK
        (try simp only [Act.put, List.setIfInBounds_toArray, List.set_cons_zero, List.set_cons_succ])
        refine wpAnyH_ready (rs := [6, 10]) (by kernel_rfl) (by simp) ?_
        refine AllReadyH.cons rfl (fun KK hK => ?_) (AllReadyH.cons rfl (fun KK hK => ?_) AllReadyH.nil)
        · go_simp
          have HC := specPlayerHear q0 D1 d L r wr1 (by omega) LI.out.own.rdP
          have hl := hearP_len q0 L r
          obtain ⟨⟨⟨q1, L1⟩, x2⟩, hX⟩ : ∃ Y : (Rq × List Rp) × Bool, Y = hearP q0 L r := ⟨_, rfl⟩
          rw [← hX] at HC hl
          clear hX
          have hl : L1.length ≤ L.length + 1 := hl
          have hsz := LI.out.gr.size
          refine HC.mono ?_
          rintro e wh2 ⟨A1, a1, rfl, oa, hb⟩
          have LI := Lib.hid (LI.out.below hb)
          have OS := Lib.hid (oa.base (lo := w.heap.size) hsz)
          clear oa hb HC hsz
          refine hK.out _ _ LI.out.box (fun hH => ?_)
          clear hK KK
          (try simp only [Act.put, List.setIfInBounds_toArray, List.set_cons_zero, List.set_cons_succ])
          refine takeD 7 16 (v := ?_) rfl rfl (by kernel_rfl) (by kernel_rfl) (by kernel_rfl) (fun _ _ _ h => h) (Or.inl ⟨by rfl, ?_⟩) (by assumption) ?_
          rotate_left
          · intro w1 hSw; go_simp; (try with_reducible rfl)
          (try simp only [Act.put, List.setIfInBounds_toArray, List.set_cons_zero, List.set_cons_succ])
          refine takeD 8 24 (v := ?_) rfl rfl (by kernel_rfl) (by kernel_rfl) (by kernel_rfl) (fun _ _ _ h => h) (Or.inl ⟨by rfl, ?_⟩) (by assumption) ?_
          rotate_left
          · intro w1 hSw; go_simp; (try with_reducible rfl)
          (try simp only [Act.put, List.setIfInBounds_toArray, List.set_cons_zero, List.set_cons_succ])
          refine takeD 9 25 (v := ?_) rfl rfl (by kernel_rfl) (by kernel_rfl) (by kernel_rfl) (fun _ _ _ h => h) (Or.inl ⟨by rfl, ?_⟩) (by assumption) ?_
          rotate_left
          · intro w1 hSw; go_simp; (try with_reducible rfl)
          (try simp only [Act.put, List.setIfInBounds_toArray, List.set_cons_zero, List.set_cons_succ])
          refine wpAnyH_ready (rs := [10]) (by kernel_rfl) (by simp) ?_
          refine AllReadyH.cons rfl (fun KK hK => ?_) AllReadyH.nil
          go_simp
          have hba : Below wh2.heap.size wh2 (wh2.alloc (.cells #[.int .i64 0, .int .i64 0, .int .i64 0, .int .i64 0, .int .i64 0, .slice none 0 0] 27)) := (Below.refl _ _).alloc (Nat.le_refl _) _
          have hxy : x < wh2.heap.size := LI.out.box.lt
          have LI := Lib.hid (LI.out.below hba)
          have TB : Hid (Bkk (wh2.alloc (.cells #[.int .i64 0, .int .i64 0, .int .i64 0, .int .i64 0, .int .i64 0, .slice none 0 0] 27)) wh2.heap.size 27 #[.int .i64 0, .int .i64 0, .int .i64 0, .int .i64 0, .int .i64 0, .slice none 0 0]) := Bkk.new _
          have OS := Lib.hid (OS.out.below hba)
          refine hK.out _ _ LI.out.box (fun hH => ?_)
          clear hK KK
          (try simp only [Act.put, List.setIfInBounds_toArray, List.set_cons_zero, List.set_cons_succ])
          clear hba
          obtain ⟨wa3, hwa3⟩ : ∃ X, X = (wh2.alloc (.cells #[.int .i64 0, .int .i64 0, .int .i64 0, .int .i64 0, .int .i64 0, .slice none 0 0] 27)) := ⟨_, rfl⟩
          obtain ⟨yb4, hyb4⟩ : ∃ X, X = wh2.heap.size := ⟨_, rfl⟩
          rw [← hwa3] at LI TB OS hH ⊢
          rw [← hyb4] at TB hxy ⊢
          clear hwa3 hyb4
          refine wpAnyH_ready (rs := [11]) (by kernel_rfl) (by simp) ?_
          refine AllReadyH.cons rfl (fun KK hK => ?_) AllReadyH.nil
          have zb0 : wa3.cell? ⟨yb4, 0, none⟩ = some (.int .i64 0) := TB.out.cell 0
          have zb1 : wa3.cell? ⟨yb4, 1, none⟩ = some (.int .i64 0) := TB.out.cell 1
          have zb2 : wa3.cell? ⟨yb4, 2, none⟩ = some (.int .i64 0) := TB.out.cell 2
          have zb3 : wa3.cell? ⟨yb4, 3, none⟩ = some (.int .i64 0) := TB.out.cell 3
          have zb4 : wa3.cell? ⟨yb4, 4, none⟩ = some (.int .i64 0) := TB.out.cell 4
          have zb5 : wa3.cell? ⟨yb4, 5, none⟩ = some (.slice none 0 0) := TB.out.cell 5
          have zbf := TB.out.frozen
          have zbl := TB.out.lt
          go_simp
          have LI := Lib.hid ((((((LI.out.put HOld.out hRlt TB.out (by omega) (by omega) 0 (.int .i64 q1.c)).put HOld.out hRlt (TB.out.set 0 (.int .i64 q1.c)) (by omega) (by omega) 1 (.int .i64 q1.n)).put HOld.out hRlt ((TB.out.set 0 (.int .i64 q1.c)).set 1 (.int .i64 q1.n)) (by omega) (by omega) 2 (.int .i64 q1.o)).put HOld.out hRlt (((TB.out.set 0 (.int .i64 q1.c)).set 1 (.int .i64 q1.n)).set 2 (.int .i64 q1.o)) (by omega) (by omega) 3 (.int .i64 q1.x)).put HOld.out hRlt ((((TB.out.set 0 (.int .i64 q1.c)).set 1 (.int .i64 q1.n)).set 2 (.int .i64 q1.o)).set 3 (.int .i64 q1.x)) (by omega) (by omega) 4 (.int .i64 q1.y)).put HOld.out hRlt (((((TB.out.set 0 (.int .i64 q1.c)).set 1 (.int .i64 q1.n)).set 2 (.int .i64 q1.o)).set 3 (.int .i64 q1.x)).set 4 (.int .i64 q1.y)) (by omega) (by omega) 5 (.slice A1 L1.length a1))
          have OS := Lib.hid ((((((OS.out.box TB.out (by decide) 0 (.int .i64 q1.c)).box (TB.out.set 0 (.int .i64 q1.c)) (by decide) 1 (.int .i64 q1.n)).box ((TB.out.set 0 (.int .i64 q1.c)).set 1 (.int .i64 q1.n)) (by decide) 2 (.int .i64 q1.o)).box (((TB.out.set 0 (.int .i64 q1.c)).set 1 (.int .i64 q1.n)).set 2 (.int .i64 q1.o)) (by decide) 3 (.int .i64 q1.x)).box ((((TB.out.set 0 (.int .i64 q1.c)).set 1 (.int .i64 q1.n)).set 2 (.int .i64 q1.o)).set 3 (.int .i64 q1.x)) (by decide) 4 (.int .i64 q1.y)).box (((((TB.out.set 0 (.int .i64 q1.c)).set 1 (.int .i64 q1.n)).set 2 (.int .i64 q1.o)).set 3 (.int .i64 q1.x)).set 4 (.int .i64 q1.y)) (by decide) 5 (.slice A1 L1.length a1))
          have TB : Hid (Bkk ((((((wa3.setCell ⟨yb4, 0, none⟩ (.int .i64 q1.c)).setCell ⟨yb4, 1, none⟩ (.int .i64 q1.n)).setCell ⟨yb4, 2, none⟩ (.int .i64 q1.o)).setCell ⟨yb4, 3, none⟩ (.int .i64 q1.x)).setCell ⟨yb4, 4, none⟩ (.int .i64 q1.y)).setCell ⟨yb4, 5, none⟩ (.slice A1 L1.length a1)) yb4 27 #[.int .i64 q1.c, .int .i64 q1.n, .int .i64 q1.o, .int .i64 q1.x, .int .i64 q1.y, .slice A1 L1.length a1]) := ((((((TB.out.set 0 (.int .i64 q1.c)).set 1 (.int .i64 q1.n)).set 2 (.int .i64 q1.o)).set 3 (.int .i64 q1.x)).set 4 (.int .i64 q1.y)).set 5 (.slice A1 L1.length a1))
          refine hK.out _ _ LI.out.box (fun hH => ?_)
          clear hK KK
          (try simp only [Act.put, List.setIfInBounds_toArray, List.set_cons_zero, List.set_cons_succ])
          refine takeD 12 6 (v := ?_) rfl rfl (by kernel_rfl) (by kernel_rfl) (by kernel_rfl) (fun _ _ _ h => h) (Or.inl ⟨by rfl, ?_⟩) (by assumption) ?_
          rotate_left
          · intro w1 hSw; go_simp; (try with_reducible rfl)
          (try simp only [Act.put, List.setIfInBounds_toArray, List.set_cons_zero, List.set_cons_succ])
          refine wpAnyH_done (by kernel_rfl) ?_ _
          clear zb0 zb1 zb2 zb3 zb4 zb5 zbf zbl
          obtain ⟨wz5, hwz5⟩ : ∃ X, X = ((((((wa3.setCell ⟨yb4, 0, none⟩ (.int .i64 q1.c)).setCell ⟨yb4, 1, none⟩ (.int .i64 q1.n)).setCell ⟨yb4, 2, none⟩ (.int .i64 q1.o)).setCell ⟨yb4, 3, none⟩ (.int .i64 q1.x)).setCell ⟨yb4, 4, none⟩ (.int .i64 q1.y)).setCell ⟨yb4, 5, none⟩ (.slice A1 L1.length a1)) := ⟨_, rfl⟩
          rw [← hwz5] at LI OS TB ⊢
          clear hwz5
          have x0 : wz5.cell? ⟨x, 0, none⟩ = some (.int .i64 q0.c) := LI.out.box.cell 0
          have x1 : wz5.cell? ⟨x, 1, none⟩ = some (.int .i64 q0.n) := LI.out.box.cell 1
          have x2 : wz5.cell? ⟨x, 2, none⟩ = some (.int .i64 q0.o) := LI.out.box.cell 2
          have x3 : wz5.cell? ⟨x, 3, none⟩ = some (.int .i64 q0.x) := LI.out.box.cell 3
          have x4 : wz5.cell? ⟨x, 4, none⟩ = some (.int .i64 q0.y) := LI.out.box.cell 4
          have x5 : wz5.cell? ⟨x, 5, none⟩ = some (.slice D1 L.length d) := LI.out.box.cell 5
          have y0 : wz5.cell? ⟨yb4, 0, none⟩ = some (.int .i64 q1.c) := TB.out.cell 0
          have y1 : wz5.cell? ⟨yb4, 1, none⟩ = some (.int .i64 q1.n) := TB.out.cell 1
          have y2 : wz5.cell? ⟨yb4, 2, none⟩ = some (.int .i64 q1.o) := TB.out.cell 2
          have y3 : wz5.cell? ⟨yb4, 3, none⟩ = some (.int .i64 q1.x) := TB.out.cell 3
          have y4 : wz5.cell? ⟨yb4, 4, none⟩ = some (.int .i64 q1.y) := TB.out.cell 4
          have y5 : wz5.cell? ⟨yb4, 5, none⟩ = some (.slice A1 L1.length a1) := TB.out.cell 5
          have xf := LI.out.box.frozen
          have lx := LI.out.box.lt
          go_upto_region 4 with (fail)
          have OS := Lib.hid ((((((OS.out.box LI.out.box (by decide) 0 (.int .i64 q1.c)).box (LI.out.box.set 0 (.int .i64 q1.c)) (by decide) 1 (.int .i64 q1.n)).box ((LI.out.box.set 0 (.int .i64 q1.c)).set 1 (.int .i64 q1.n)) (by decide) 2 (.int .i64 q1.o)).box (((LI.out.box.set 0 (.int .i64 q1.c)).set 1 (.int .i64 q1.n)).set 2 (.int .i64 q1.o)) (by decide) 3 (.int .i64 q1.x)).box ((((LI.out.box.set 0 (.int .i64 q1.c)).set 1 (.int .i64 q1.n)).set 2 (.int .i64 q1.o)).set 3 (.int .i64 q1.x)) (by decide) 4 (.int .i64 q1.y)).box (((((LI.out.box.set 0 (.int .i64 q1.c)).set 1 (.int .i64 q1.n)).set 2 (.int .i64 q1.o)).set 3 (.int .i64 q1.x)).set 4 (.int .i64 q1.y)) (by decide) 5 (.slice A1 L1.length a1))
          have LJ : Hid (PlI w R A n c x #[.int .i64 q1.c, .int .i64 q1.n, .int .i64 q1.o, .int .i64 q1.x, .int .i64 q1.y, .slice A1 L1.length a1] D1 d L qa ((((((wz5.setCell ⟨x, 0, none⟩ (.int .i64 q1.c)).setCell ⟨x, 1, none⟩ (.int .i64 q1.n)).setCell ⟨x, 2, none⟩ (.int .i64 q1.o)).setCell ⟨x, 3, none⟩ (.int .i64 q1.x)).setCell ⟨x, 4, none⟩ (.int .i64 q1.y)).setCell ⟨x, 5, none⟩ (.slice A1 L1.length a1))) := ((((((LI.out.set HOld.out hRlt hx 0 (.int .i64 q1.c)).set HOld.out hRlt hx 1 (.int .i64 q1.n)).set HOld.out hRlt hx 2 (.int .i64 q1.o)).set HOld.out hRlt hx 3 (.int .i64 q1.x)).set HOld.out hRlt hx 4 (.int .i64 q1.y)).set HOld.out hRlt hx 5 (.slice A1 L1.length a1))
          have LI := Lib.hid (LJ.out.own' OS.out)
          clear x0 x1 x2 x3 x4 x5 y0 y1 y2 y3 y4 y5 xf lx LJ OS TB
          obtain ⟨wy6, hwy6⟩ : ∃ X, X = ((((((wz5.setCell ⟨x, 0, none⟩ (.int .i64 q1.c)).setCell ⟨x, 1, none⟩ (.int .i64 q1.n)).setCell ⟨x, 2, none⟩ (.int .i64 q1.o)).setCell ⟨x, 3, none⟩ (.int .i64 q1.x)).setCell ⟨x, 4, none⟩ (.int .i64 q1.y)).setCell ⟨x, 5, none⟩ (.slice A1 L1.length a1)) := ⟨_, rfl⟩
          rw [← hwy6] at LI ⊢
          clear hwy6
          go_wp2
          go_roundw
          case rel => exact ⟨k, qa, q1, A1, a1, L1, by go_num, by omega, by omega, by omega, LI.out⟩
          case measure => (simp [intOf]; try omega)
        · go_simp
          have hba : Below wr1.heap.size wr1 (wr1.alloc (.cells #[.int .i64 0, .int .i64 0, .int .i64 0, .int .i64 0, .int .i64 0, .slice none 0 0] 27)) := (Below.refl _ _).alloc (Nat.le_refl _) _
          have hxy : x < wr1.heap.size := LI.out.box.lt
          have LI := Lib.hid (LI.out.below hba)
          have TB : Hid (Bkk (wr1.alloc (.cells #[.int .i64 0, .int .i64 0, .int .i64 0, .int .i64 0, .int .i64 0, .slice none 0 0] 27)) wr1.heap.size 27 #[.int .i64 0, .int .i64 0, .int .i64 0, .int .i64 0, .int .i64 0, .slice none 0 0]) := Bkk.new _
          refine hK.out _ _ LI.out.box (fun hH => ?_)
          clear hK KK
          (try simp only [Act.put, List.setIfInBounds_toArray, List.set_cons_zero, List.set_cons_succ])
          clear hba
          obtain ⟨wa7, hwa7⟩ : ∃ X, X = (wr1.alloc (.cells #[.int .i64 0, .int .i64 0, .int .i64 0, .int .i64 0, .int .i64 0, .slice none 0 0] 27)) := ⟨_, rfl⟩
          obtain ⟨yb8, hyb8⟩ : ∃ X, X = wr1.heap.size := ⟨_, rfl⟩
          rw [← hwa7] at LI TB hH ⊢
          rw [← hyb8] at TB hxy ⊢
          clear hwa7 hyb8
          refine wpAnyH_ready (rs := [6]) (by kernel_rfl) (by simp) ?_
          refine AllReadyH.cons rfl (fun KK hK => ?_) AllReadyH.nil
          go_simp
          have HC := specPlayerHear q0 D1 d L r wa7 (by omega) LI.out.own.rdP
          have hl := hearP_len q0 L r
          obtain ⟨⟨⟨q1, L1⟩, x2⟩, hX⟩ : ∃ Y : (Rq × List Rp) × Bool, Y = hearP q0 L r := ⟨_, rfl⟩
          rw [← hX] at HC hl
          clear hX
          have hl : L1.length ≤ L.length + 1 := hl
          have hsz := LI.out.gr.size
          refine HC.mono ?_
          rintro e wh9 ⟨A1, a1, rfl, oa, hb⟩
          have LI := Lib.hid (LI.out.below hb)
          have OS := Lib.hid (oa.base (lo := w.heap.size) hsz)
          have TB := Lib.hid (TB.out.below hb)
          clear oa hb HC hsz
          refine hK.out _ _ LI.out.box (fun hH => ?_)
          clear hK KK
          (try simp only [Act.put, List.setIfInBounds_toArray, List.set_cons_zero, List.set_cons_succ])
          refine takeD 7 16 (v := ?_) rfl rfl (by kernel_rfl) (by kernel_rfl) (by kernel_rfl) (fun _ _ _ h => h) (Or.inl ⟨by rfl, ?_⟩) (by assumption) ?_
          rotate_left
          · intro w1 hSw; go_simp; (try with_reducible rfl)
          (try simp only [Act.put, List.setIfInBounds_toArray, List.set_cons_zero, List.set_cons_succ])
          refine takeD 8 24 (v := ?_) rfl rfl (by kernel_rfl) (by kernel_rfl) (by kernel_rfl) (fun _ _ _ h => h) (Or.inl ⟨by rfl, ?_⟩) (by assumption) ?_
          rotate_left
          · intro w1 hSw; go_simp; (try with_reducible rfl)
          (try simp only [Act.put, List.setIfInBounds_toArray, List.set_cons_zero, List.set_cons_succ])
          refine takeD 9 25 (v := ?_) rfl rfl (by kernel_rfl) (by kernel_rfl) (by kernel_rfl) (fun _ _ _ h => h) (Or.inl ⟨by rfl, ?_⟩) (by assumption) ?_
          rotate_left
          · intro w1 hSw; go_simp; (try with_reducible rfl)
          (try simp only [Act.put, List.setIfInBounds_toArray, List.set_cons_zero, List.set_cons_succ])
          refine wpAnyH_ready (rs := [11]) (by kernel_rfl) (by simp) ?_
          refine AllReadyH.cons rfl (fun KK hK => ?_) AllReadyH.nil
          have zb0 : wh9.cell? ⟨yb8, 0, none⟩ = some (.int .i64 0) := TB.out.cell 0
          have zb1 : wh9.cell? ⟨yb8, 1, none⟩ = some (.int .i64 0) := TB.out.cell 1
          have zb2 : wh9.cell? ⟨yb8, 2, none⟩ = some (.int .i64 0) := TB.out.cell 2
          have zb3 : wh9.cell? ⟨yb8, 3, none⟩ = some (.int .i64 0) := TB.out.cell 3
          have zb4 : wh9.cell? ⟨yb8, 4, none⟩ = some (.int .i64 0) := TB.out.cell 4
          have zb5 : wh9.cell? ⟨yb8, 5, none⟩ = some (.slice none 0 0) := TB.out.cell 5
          have zbf := TB.out.frozen
          have zbl := TB.out.lt
          go_simp
          have LI := Lib.hid ((((((LI.out.put HOld.out hRlt TB.out (by omega) (by omega) 0 (.int .i64 q1.c)).put HOld.out hRlt (TB.out.set 0 (.int .i64 q1.c)) (by omega) (by omega) 1 (.int .i64 q1.n)).put HOld.out hRlt ((TB.out.set 0 (.int .i64 q1.c)).set 1 (.int .i64 q1.n)) (by omega) (by omega) 2 (.int .i64 q1.o)).put HOld.out hRlt (((TB.out.set 0 (.int .i64 q1.c)).set 1 (.int .i64 q1.n)).set 2 (.int .i64 q1.o)) (by omega) (by omega) 3 (.int .i64 q1.x)).put HOld.out hRlt ((((TB.out.set 0 (.int .i64 q1.c)).set 1 (.int .i64 q1.n)).set 2 (.int .i64 q1.o)).set 3 (.int .i64 q1.x)) (by omega) (by omega) 4 (.int .i64 q1.y)).put HOld.out hRlt (((((TB.out.set 0 (.int .i64 q1.c)).set 1 (.int .i64 q1.n)).set 2 (.int .i64 q1.o)).set 3 (.int .i64 q1.x)).set 4 (.int .i64 q1.y)) (by omega) (by omega) 5 (.slice A1 L1.length a1))
          have OS := Lib.hid ((((((OS.out.box TB.out (by decide) 0 (.int .i64 q1.c)).box (TB.out.set 0 (.int .i64 q1.c)) (by decide) 1 (.int .i64 q1.n)).box ((TB.out.set 0 (.int .i64 q1.c)).set 1 (.int .i64 q1.n)) (by decide) 2 (.int .i64 q1.o)).box (((TB.out.set 0 (.int .i64 q1.c)).set 1 (.int .i64 q1.n)).set 2 (.int .i64 q1.o)) (by decide) 3 (.int .i64 q1.x)).box ((((TB.out.set 0 (.int .i64 q1.c)).set 1 (.int .i64 q1.n)).set 2 (.int .i64 q1.o)).set 3 (.int .i64 q1.x)) (by decide) 4 (.int .i64 q1.y)).box (((((TB.out.set 0 (.int .i64 q1.c)).set 1 (.int .i64 q1.n)).set 2 (.int .i64 q1.o)).set 3 (.int .i64 q1.x)).set 4 (.int .i64 q1.y)) (by decide) 5 (.slice A1 L1.length a1))
          have TB : Hid (Bkk ((((((wh9.setCell ⟨yb8, 0, none⟩ (.int .i64 q1.c)).setCell ⟨yb8, 1, none⟩ (.int .i64 q1.n)).setCell ⟨yb8, 2, none⟩ (.int .i64 q1.o)).setCell ⟨yb8, 3, none⟩ (.int .i64 q1.x)).setCell ⟨yb8, 4, none⟩ (.int .i64 q1.y)).setCell ⟨yb8, 5, none⟩ (.slice A1 L1.length a1)) yb8 27 #[.int .i64 q1.c, .int .i64 q1.n, .int .i64 q1.o, .int .i64 q1.x, .int .i64 q1.y, .slice A1 L1.length a1]) := ((((((TB.out.set 0 (.int .i64 q1.c)).set 1 (.int .i64 q1.n)).set 2 (.int .i64 q1.o)).set 3 (.int .i64 q1.x)).set 4 (.int .i64 q1.y)).set 5 (.slice A1 L1.length a1))
          refine hK.out _ _ LI.out.box (fun hH => ?_)
          clear hK KK
          (try simp only [Act.put, List.setIfInBounds_toArray, List.set_cons_zero, List.set_cons_succ])
          refine takeD 12 6 (v := ?_) rfl rfl (by kernel_rfl) (by kernel_rfl) (by kernel_rfl) (fun _ _ _ h => h) (Or.inl ⟨by rfl, ?_⟩) (by assumption) ?_
          rotate_left
          · intro w1 hSw; go_simp; (try with_reducible rfl)
          (try simp only [Act.put, List.setIfInBounds_toArray, List.set_cons_zero, List.set_cons_succ])
          refine wpAnyH_done (by kernel_rfl) ?_ _
          clear zb0 zb1 zb2 zb3 zb4 zb5 zbf zbl
          obtain ⟨wz10, hwz10⟩ : ∃ X, X = ((((((wh9.setCell ⟨yb8, 0, none⟩ (.int .i64 q1.c)).setCell ⟨yb8, 1, none⟩ (.int .i64 q1.n)).setCell ⟨yb8, 2, none⟩ (.int .i64 q1.o)).setCell ⟨yb8, 3, none⟩ (.int .i64 q1.x)).setCell ⟨yb8, 4, none⟩ (.int .i64 q1.y)).setCell ⟨yb8, 5, none⟩ (.slice A1 L1.length a1)) := ⟨_, rfl⟩
          rw [← hwz10] at LI OS TB ⊢
          clear hwz10
          have x0 : wz10.cell? ⟨x, 0, none⟩ = some (.int .i64 q0.c) := LI.out.box.cell 0
          have x1 : wz10.cell? ⟨x, 1, none⟩ = some (.int .i64 q0.n) := LI.out.box.cell 1
          have x2 : wz10.cell? ⟨x, 2, none⟩ = some (.int .i64 q0.o) := LI.out.box.cell 2
          have x3 : wz10.cell? ⟨x, 3, none⟩ = some (.int .i64 q0.x) := LI.out.box.cell 3
          have x4 : wz10.cell? ⟨x, 4, none⟩ = some (.int .i64 q0.y) := LI.out.box.cell 4
          have x5 : wz10.cell? ⟨x, 5, none⟩ = some (.slice D1 L.length d) := LI.out.box.cell 5
          have y0 : wz10.cell? ⟨yb8, 0, none⟩ = some (.int .i64 q1.c) := TB.out.cell 0
          have y1 : wz10.cell? ⟨yb8, 1, none⟩ = some (.int .i64 q1.n) := TB.out.cell 1
          have y2 : wz10.cell? ⟨yb8, 2, none⟩ = some (.int .i64 q1.o) := TB.out.cell 2
          have y3 : wz10.cell? ⟨yb8, 3, none⟩ = some (.int .i64 q1.x) := TB.out.cell 3
          have y4 : wz10.cell? ⟨yb8, 4, none⟩ = some (.int .i64 q1.y) := TB.out.cell 4
          have y5 : wz10.cell? ⟨yb8, 5, none⟩ = some (.slice A1 L1.length a1) := TB.out.cell 5
          have xf := LI.out.box.frozen
          have lx := LI.out.box.lt
          go_upto_region 4 with (fail)
          have OS := Lib.hid ((((((OS.out.box LI.out.box (by decide) 0 (.int .i64 q1.c)).box (LI.out.box.set 0 (.int .i64 q1.c)) (by decide) 1 (.int .i64 q1.n)).box ((LI.out.box.set 0 (.int .i64 q1.c)).set 1 (.int .i64 q1.n)) (by decide) 2 (.int .i64 q1.o)).box (((LI.out.box.set 0 (.int .i64 q1.c)).set 1 (.int .i64 q1.n)).set 2 (.int .i64 q1.o)) (by decide) 3 (.int .i64 q1.x)).box ((((LI.out.box.set 0 (.int .i64 q1.c)).set 1 (.int .i64 q1.n)).set 2 (.int .i64 q1.o)).set 3 (.int .i64 q1.x)) (by decide) 4 (.int .i64 q1.y)).box (((((LI.out.box.set 0 (.int .i64 q1.c)).set 1 (.int .i64 q1.n)).set 2 (.int .i64 q1.o)).set 3 (.int .i64 q1.x)).set 4 (.int .i64 q1.y)) (by decide) 5 (.slice A1 L1.length a1))
          have LJ : Hid (PlI w R A n c x #[.int .i64 q1.c, .int .i64 q1.n, .int .i64 q1.o, .int .i64 q1.x, .int .i64 q1.y, .slice A1 L1.length a1] D1 d L qa ((((((wz10.setCell ⟨x, 0, none⟩ (.int .i64 q1.c)).setCell ⟨x, 1, none⟩ (.int .i64 q1.n)).setCell ⟨x, 2, none⟩ (.int .i64 q1.o)).setCell ⟨x, 3, none⟩ (.int .i64 q1.x)).setCell ⟨x, 4, none⟩ (.int .i64 q1.y)).setCell ⟨x, 5, none⟩ (.slice A1 L1.length a1))) := ((((((LI.out.set HOld.out hRlt hx 0 (.int .i64 q1.c)).set HOld.out hRlt hx 1 (.int .i64 q1.n)).set HOld.out hRlt hx 2 (.int .i64 q1.o)).set HOld.out hRlt hx 3 (.int .i64 q1.x)).set HOld.out hRlt hx 4 (.int .i64 q1.y)).set HOld.out hRlt hx 5 (.slice A1 L1.length a1))
          have LI := Lib.hid (LJ.out.own' OS.out)
          clear x0 x1 x2 x3 x4 x5 y0 y1 y2 y3 y4 y5 xf lx LJ OS TB
          obtain ⟨wy11, hwy11⟩ : ∃ X, X = ((((((wz10.setCell ⟨x, 0, none⟩ (.int .i64 q1.c)).setCell ⟨x, 1, none⟩ (.int .i64 q1.n)).setCell ⟨x, 2, none⟩ (.int .i64 q1.o)).setCell ⟨x, 3, none⟩ (.int .i64 q1.x)).setCell ⟨x, 4, none⟩ (.int .i64 q1.y)).setCell ⟨x, 5, none⟩ (.slice A1 L1.length a1)) := ⟨_, rfl⟩
          rw [← hwy11] at LI ⊢
          clear hwy11
          go_wp2
          go_roundw
          case rel => exact ⟨k, qa, q1, A1, a1, L1, by go_num, by omega, by omega, by omega, LI.out⟩
          case measure => (simp [intOf]; try omega)
      · go_simp
        have hba : Below w0.heap.size w0 (w0.alloc (.cells #[.int .i64 0, .int .i64 0, .int .i64 0, .int .i64 0, .int .i64 0, .slice none 0 0] 27)) := (Below.refl _ _).alloc (Nat.le_refl _) _
        have hxy : x < w0.heap.size := LI.out.box.lt
        have LI := Lib.hid (LI.out.below hba)
        have TB : Hid (Bkk (w0.alloc (.cells #[.int .i64 0, .int .i64 0, .int .i64 0, .int .i64 0, .int .i64 0, .slice none 0 0] 27)) w0.heap.size 27 #[.int .i64 0, .int .i64 0, .int .i64 0, .int .i64 0, .int .i64 0, .slice none 0 0]) := Bkk.new _
        refine hK.out _ _ LI.out.box (fun hH => ?_)
        clear hK KK
        (try simp only [Act.put, List.setIfInBounds_toArray, List.set_cons_zero, List.set_cons_succ])
        clear hba
        obtain ⟨wa12, hwa12⟩ : ∃ X, X = (w0.alloc (.cells #[.int .i64 0, .int .i64 0, .int .i64 0, .int .i64 0, .int .i64 0, .slice none 0 0] 27)) := ⟨_, rfl⟩
        obtain ⟨yb13, hyb13⟩ : ∃ X, X = w0.heap.size := ⟨_, rfl⟩
        rw [← hwa12] at LI TB hH ⊢
        rw [← hyb13] at TB hxy ⊢
        clear hwa12 hyb13
        refine wpAnyH_ready (rs := [5]) (by kernel_rfl) (by simp) ?_
        refine AllReadyH.cons rfl (fun KK hK => ?_) AllReadyH.nil
        go_simp
        refine (l20Reply q0.n LI.out.rd (by omega)).mono ?_
        rintro e wr14 ⟨r, rfl, qa, qa0, qa1, hr, hgr⟩
        have LI := Lib.hid (LI.out.draw hRlt hx hr hgr)
        have TB := Lib.hid (TB.out.grown hgr (fun e => by injection e with e; omega))
        clear hr hgr
        refine hK.out _ _ LI.out.box (fun hH => ?_)
        clear hK KK
        (try simp only [Act.put, List.setIfInBounds_toArray, List.set_cons_zero, List.set_cons_succ])
        refine wpAnyH_ready (rs := [6]) (by kernel_rfl) (by simp) ?_
        refine AllReadyH.cons rfl (fun KK hK => ?_) AllReadyH.nil
        go_simp
        have HC := specPlayerHear q0 D1 d L r wr14 (by omega) LI.out.own.rdP
        have hl := hearP_len q0 L r
        obtain ⟨⟨⟨q1, L1⟩, x2⟩, hX⟩ : ∃ Y : (Rq × List Rp) × Bool, Y = hearP q0 L r := ⟨_, rfl⟩
        rw [← hX] at HC hl
        clear hX
        have hl : L1.length ≤ L.length + 1 := hl
        have hsz := LI.out.gr.size
        refine HC.mono ?_
        rintro e wh15 ⟨A1, a1, rfl, oa, hb⟩
        have LI := Lib.hid (LI.out.below hb)
        have OS := Lib.hid (oa.base (lo := w.heap.size) hsz)
        have TB := Lib.hid (TB.out.below hb)
        clear oa hb HC hsz
        refine hK.out _ _ LI.out.box (fun hH => ?_)
        clear hK KK
        (try simp only [Act.put, List.setIfInBounds_toArray, List.set_cons_zero, List.set_cons_succ])
        refine takeD 7 16 (v := ?_) rfl rfl (by kernel_rfl) (by kernel_rfl) (by kernel_rfl) (fun _ _ _ h => h) (Or.inl ⟨by rfl, ?_⟩) (by assumption) ?_
        rotate_left
        · intro w1 hSw; go_simp; (try with_reducible rfl)
        (try simp only [Act.put, List.setIfInBounds_toArray, List.set_cons_zero, List.set_cons_succ])
        refine takeD 8 24 (v := ?_) rfl rfl (by kernel_rfl) (by kernel_rfl) (by kernel_rfl) (fun _ _ _ h => h) (Or.inl ⟨by rfl, ?_⟩) (by assumption) ?_
        rotate_left
        · intro w1 hSw; go_simp; (try with_reducible rfl)
        (try simp only [Act.put, List.setIfInBounds_toArray, List.set_cons_zero, List.set_cons_succ])
        refine takeD 9 25 (v := ?_) rfl rfl (by kernel_rfl) (by kernel_rfl) (by kernel_rfl) (fun _ _ _ h => h) (Or.inl ⟨by rfl, ?_⟩) (by assumption) ?_
        rotate_left
        · intro w1 hSw; go_simp; (try with_reducible rfl)
        (try simp only [Act.put, List.setIfInBounds_toArray, List.set_cons_zero, List.set_cons_succ])
        refine wpAnyH_ready (rs := [11]) (by kernel_rfl) (by simp) ?_
        refine AllReadyH.cons rfl (fun KK hK => ?_) AllReadyH.nil
        have zb0 : wh15.cell? ⟨yb13, 0, none⟩ = some (.int .i64 0) := TB.out.cell 0
        have zb1 : wh15.cell? ⟨yb13, 1, none⟩ = some (.int .i64 0) := TB.out.cell 1
        have zb2 : wh15.cell? ⟨yb13, 2, none⟩ = some (.int .i64 0) := TB.out.cell 2
        have zb3 : wh15.cell? ⟨yb13, 3, none⟩ = some (.int .i64 0) := TB.out.cell 3
        have zb4 : wh15.cell? ⟨yb13, 4, none⟩ = some (.int .i64 0) := TB.out.cell 4
        have zb5 : wh15.cell? ⟨yb13, 5, none⟩ = some (.slice none 0 0) := TB.out.cell 5
        have zbf := TB.out.frozen
        have zbl := TB.out.lt
        go_simp
        have LI := Lib.hid ((((((LI.out.put HOld.out hRlt TB.out (by omega) (by omega) 0 (.int .i64 q1.c)).put HOld.out hRlt (TB.out.set 0 (.int .i64 q1.c)) (by omega) (by omega) 1 (.int .i64 q1.n)).put HOld.out hRlt ((TB.out.set 0 (.int .i64 q1.c)).set 1 (.int .i64 q1.n)) (by omega) (by omega) 2 (.int .i64 q1.o)).put HOld.out hRlt (((TB.out.set 0 (.int .i64 q1.c)).set 1 (.int .i64 q1.n)).set 2 (.int .i64 q1.o)) (by omega) (by omega) 3 (.int .i64 q1.x)).put HOld.out hRlt ((((TB.out.set 0 (.int .i64 q1.c)).set 1 (.int .i64 q1.n)).set 2 (.int .i64 q1.o)).set 3 (.int .i64 q1.x)) (by omega) (by omega) 4 (.int .i64 q1.y)).put HOld.out hRlt (((((TB.out.set 0 (.int .i64 q1.c)).set 1 (.int .i64 q1.n)).set 2 (.int .i64 q1.o)).set 3 (.int .i64 q1.x)).set 4 (.int .i64 q1.y)) (by omega) (by omega) 5 (.slice A1 L1.length a1))
        have OS := Lib.hid ((((((OS.out.box TB.out (by decide) 0 (.int .i64 q1.c)).box (TB.out.set 0 (.int .i64 q1.c)) (by decide) 1 (.int .i64 q1.n)).box ((TB.out.set 0 (.int .i64 q1.c)).set 1 (.int .i64 q1.n)) (by decide) 2 (.int .i64 q1.o)).box (((TB.out.set 0 (.int .i64 q1.c)).set 1 (.int .i64 q1.n)).set 2 (.int .i64 q1.o)) (by decide) 3 (.int .i64 q1.x)).box ((((TB.out.set 0 (.int .i64 q1.c)).set 1 (.int .i64 q1.n)).set 2 (.int .i64 q1.o)).set 3 (.int .i64 q1.x)) (by decide) 4 (.int .i64 q1.y)).box (((((TB.out.set 0 (.int .i64 q1.c)).set 1 (.int .i64 q1.n)).set 2 (.int .i64 q1.o)).set 3 (.int .i64 q1.x)).set 4 (.int .i64 q1.y)) (by decide) 5 (.slice A1 L1.length a1))
        have TB : Hid (Bkk ((((((wh15.setCell ⟨yb13, 0, none⟩ (.int .i64 q1.c)).setCell ⟨yb13, 1, none⟩ (.int .i64 q1.n)).setCell ⟨yb13, 2, none⟩ (.int .i64 q1.o)).setCell ⟨yb13, 3, none⟩ (.int .i64 q1.x)).setCell ⟨yb13, 4, none⟩ (.int .i64 q1.y)).setCell ⟨yb13, 5, none⟩ (.slice A1 L1.length a1)) yb13 27 #[.int .i64 q1.c, .int .i64 q1.n, .int .i64 q1.o, .int .i64 q1.x, .int .i64 q1.y, .slice A1 L1.length a1]) := ((((((TB.out.set 0 (.int .i64 q1.c)).set 1 (.int .i64 q1.n)).set 2 (.int .i64 q1.o)).set 3 (.int .i64 q1.x)).set 4 (.int .i64 q1.y)).set 5 (.slice A1 L1.length a1))
        refine hK.out _ _ LI.out.box (fun hH => ?_)
        clear hK KK
        (try simp only [Act.put, List.setIfInBounds_toArray, List.set_cons_zero, List.set_cons_succ])
        refine takeD 12 6 (v := ?_) rfl rfl (by kernel_rfl) (by kernel_rfl) (by kernel_rfl) (fun _ _ _ h => h) (Or.inl ⟨by rfl, ?_⟩) (by assumption) ?_
        rotate_left
        · intro w1 hSw; go_simp; (try with_reducible rfl)
        (try simp only [Act.put, List.setIfInBounds_toArray, List.set_cons_zero, List.set_cons_succ])
        refine wpAnyH_done (by kernel_rfl) ?_ _
        clear zb0 zb1 zb2 zb3 zb4 zb5 zbf zbl
        obtain ⟨wz16, hwz16⟩ : ∃ X, X = ((((((wh15.setCell ⟨yb13, 0, none⟩ (.int .i64 q1.c)).setCell ⟨yb13, 1, none⟩ (.int .i64 q1.n)).setCell ⟨yb13, 2, none⟩ (.int .i64 q1.o)).setCell ⟨yb13, 3, none⟩ (.int .i64 q1.x)).setCell ⟨yb13, 4, none⟩ (.int .i64 q1.y)).setCell ⟨yb13, 5, none⟩ (.slice A1 L1.length a1)) := ⟨_, rfl⟩
        rw [← hwz16] at LI OS TB ⊢
        clear hwz16
        have x0 : wz16.cell? ⟨x, 0, none⟩ = some (.int .i64 q0.c) := LI.out.box.cell 0
        have x1 : wz16.cell? ⟨x, 1, none⟩ = some (.int .i64 q0.n) := LI.out.box.cell 1
        have x2 : wz16.cell? ⟨x, 2, none⟩ = some (.int .i64 q0.o) := LI.out.box.cell 2
        have x3 : wz16.cell? ⟨x, 3, none⟩ = some (.int .i64 q0.x) := LI.out.box.cell 3
        have x4 : wz16.cell? ⟨x, 4, none⟩ = some (.int .i64 q0.y) := LI.out.box.cell 4
        have x5 : wz16.cell? ⟨x, 5, none⟩ = some (.slice D1 L.length d) := LI.out.box.cell 5
        have y0 : wz16.cell? ⟨yb13, 0, none⟩ = some (.int .i64 q1.c) := TB.out.cell 0
        have y1 : wz16.cell? ⟨yb13, 1, none⟩ = some (.int .i64 q1.n) := TB.out.cell 1
        have y2 : wz16.cell? ⟨yb13, 2, none⟩ = some (.int .i64 q1.o) := TB.out.cell 2
        have y3 : wz16.cell? ⟨yb13, 3, none⟩ = some (.int .i64 q1.x) := TB.out.cell 3
        have y4 : wz16.cell? ⟨yb13, 4, none⟩ = some (.int .i64 q1.y) := TB.out.cell 4
        have y5 : wz16.cell? ⟨yb13, 5, none⟩ = some (.slice A1 L1.length a1) := TB.out.cell 5
        have xf := LI.out.box.frozen
        have lx := LI.out.box.lt
        go_upto_region 4 with (fail)
        have OS := Lib.hid ((((((OS.out.box LI.out.box (by decide) 0 (.int .i64 q1.c)).box (LI.out.box.set 0 (.int .i64 q1.c)) (by decide) 1 (.int .i64 q1.n)).box ((LI.out.box.set 0 (.int .i64 q1.c)).set 1 (.int .i64 q1.n)) (by decide) 2 (.int .i64 q1.o)).box (((LI.out.box.set 0 (.int .i64 q1.c)).set 1 (.int .i64 q1.n)).set 2 (.int .i64 q1.o)) (by decide) 3 (.int .i64 q1.x)).box ((((LI.out.box.set 0 (.int .i64 q1.c)).set 1 (.int .i64 q1.n)).set 2 (.int .i64 q1.o)).set 3 (.int .i64 q1.x)) (by decide) 4 (.int .i64 q1.y)).box (((((LI.out.box.set 0 (.int .i64 q1.c)).set 1 (.int .i64 q1.n)).set 2 (.int .i64 q1.o)).set 3 (.int .i64 q1.x)).set 4 (.int .i64 q1.y)) (by decide) 5 (.slice A1 L1.length a1))
        have LJ : Hid (PlI w R A n c x #[.int .i64 q1.c, .int .i64 q1.n, .int .i64 q1.o, .int .i64 q1.x, .int .i64 q1.y, .slice A1 L1.length a1] D1 d L qa ((((((wz16.setCell ⟨x, 0, none⟩ (.int .i64 q1.c)).setCell ⟨x, 1, none⟩ (.int .i64 q1.n)).setCell ⟨x, 2, none⟩ (.int .i64 q1.o)).setCell ⟨x, 3, none⟩ (.int .i64 q1.x)).setCell ⟨x, 4, none⟩ (.int .i64 q1.y)).setCell ⟨x, 5, none⟩ (.slice A1 L1.length a1))) := ((((((LI.out.set HOld.out hRlt hx 0 (.int .i64 q1.c)).set HOld.out hRlt hx 1 (.int .i64 q1.n)).set HOld.out hRlt hx 2 (.int .i64 q1.o)).set HOld.out hRlt hx 3 (.int .i64 q1.x)).set HOld.out hRlt hx 4 (.int .i64 q1.y)).set HOld.out hRlt hx 5 (.slice A1 L1.length a1))
        have LI := Lib.hid (LJ.out.own' OS.out)
        clear x0 x1 x2 x3 x4 x5 y0 y1 y2 y3 y4 y5 xf lx LJ OS TB
        obtain ⟨wy17, hwy17⟩ : ∃ X, X = ((((((wz16.setCell ⟨x, 0, none⟩ (.int .i64 q1.c)).setCell ⟨x, 1, none⟩ (.int .i64 q1.n)).setCell ⟨x, 2, none⟩ (.int .i64 q1.o)).setCell ⟨x, 3, none⟩ (.int .i64 q1.x)).setCell ⟨x, 4, none⟩ (.int .i64 q1.y)).setCell ⟨x, 5, none⟩ (.slice A1 L1.length a1)) := ⟨_, rfl⟩
        rw [← hwy17] at LI ⊢
        clear hwy17
        go_wp2
        go_roundw
        case rel => exact ⟨k, qa, q1, A1, a1, L1, by go_num, by omega, by omega, by omega, LI.out⟩
        case measure => (simp [intOf]; try omega)

end Go.Proofs.Ytdpladihacgobaa
