/- Things with times drawn of a code. -/
import Derived.Test.YtgnemgnhjallhaaVs
import Derived.Test.YtgnemgnhjallhaaMM
namespace Go.Proofs.Ytgnemgnhjallhaa
open Go.ChangeShapes Go.WideShapes Go.ChangeAt Go.RowKit
set_option linter.unusedVariables false
set_option linter.unusedSimpArgs false

theorem grown_rowV {a b c : World} {R : Nat} {row : Option Nat} (h : a.grownBy b (some R)) (k : b.grownBy c row) (hx : ∀ x, row = some x → a.heap.size ≤ x) : a.grownBy c (some R) :=
  ⟨k.os.trans h.os, k.tape.trans h.tape, k.output.trans h.output, Nat.le_trans h.size k.size, fun i hi hr => (k.block i (Nat.lt_of_lt_of_le hi h.size) (fun e => by have := hx i e.symm; omega)).trans (h.block i hi hr)⟩
theorem Reader.rowV {w w' : World} {R : Nat} {A : Option Addr} {n c : Nat} {p : Int} {row : Option Nat} {B : Nat} (h : Reader w R A n c p) (hg : w.grownBy w' row) (hR : R < B) (hB : ∀ b off, A = some ⟨b, off, none⟩ → 0 < n → b < B) (hx : ∀ x, row = some x → B ≤ x) : Reader w' R A n c p :=
  ⟨(hg.block R h.lt (fun e => by have := hx R e.symm; omega)).trans h.at_, fun i hi => by
    obtain ⟨b, off, u, hA, hc, hu⟩ := h.bytes i hi
    exact ⟨b, off, u, hA, hg.cell hc (fun e => by have := hx _ e.symm; have := hB b off hA (by omega); simp at *; omega), hu⟩, h.far, h.lo, h.len⟩
/-- A draw on its way: from w to W, the reader at q. -/
structure Dr (w : World) (R : Nat) (A : Option Addr) (n c : Nat) (q : Int) (W : World) : Prop where
  rd : Reader W R A n c q
  gr : w.grownBy W (some R)
section
variable {w W W1 : World} {R : Nat} {A : Option Addr} {n c : Nat} {p q q1 : Int}
theorem Dr.start (h : Reader w R A n c q) : Dr w R A n c q w := ⟨h, World.grownBy.refl _ _⟩
theorem Dr.below (h : Dr w R A n c q W) (hb : Below W.heap.size W W1) : Dr w R A n c q W1 := ⟨h.rd.below hb, grownBy_trans h.gr (Below.grownBy hb _)⟩
theorem Dr.draw (h : Dr w R A n c q W) (hr : Reader W1 R A n c q1) (hg : W.grownBy W1 (some R)) : Dr w R A n c q1 W1 := ⟨hr, grownBy_trans h.gr hg⟩
theorem Dr.put (h : Dr w R A n c q W) (hO : ∀ b off, A = some ⟨b, off, none⟩ → 0 < n → b < w.heap.size) (hR : R < w.heap.size) {x : Nat} (hx : w.heap.size ≤ x) (j : Nat) (v : Value) : Dr w R A n c q (W.setCell ⟨x, j, none⟩ v) := ⟨h.rd.set w.heap.size x j v hO hR hx, grown_new h.gr (grownBy_set W x j v) hx⟩
theorem Dr.row {row : Option Nat} (h : Dr w R A n c q W) (hO : ∀ b off, A = some ⟨b, off, none⟩ → 0 < n → b < w.heap.size) (hR : R < w.heap.size) (hg : W.grownBy W1 row) (hx : ∀ x, row = some x → w.heap.size ≤ x) : Dr w R A n c q W1 := ⟨h.rd.rowV hg hR hO hx, grown_rowV h.gr hg hx⟩
theorem Dr.lo {lo : Nat} (h : Dr w R A n c q W) (hO : ∀ b off, A = some ⟨b, off, none⟩ → 0 < n → b < w.heap.size) (hR : R < w.heap.size) (hb : Below lo W W1) (hl : w.heap.size ≤ lo) : Dr w R A n c q W1 := by
  refine ⟨⟨(hb.block R (by omega)).trans h.rd.at_, fun i hi => ?_, h.rd.far, h.rd.lo, h.rd.len⟩, ⟨hb.os.trans h.gr.os, hb.tape.trans h.gr.tape, hb.output.trans h.gr.output, Nat.le_trans h.gr.size hb.size, fun i hi hr => (hb.block i (by omega)).trans (h.gr.block i hi hr)⟩⟩
  obtain ⟨b, off, u, hA, hc, hu⟩ := h.rd.bytes i hi
  have hb1 := hO b off hA (by omega)
  exact ⟨b, off, u, hA, (hb.cell (p := ⟨b, off + i, none⟩) (by simp; omega)).trans hc, hu⟩
theorem Dr.out {K : Int} (h : Dr w R A n c q W) (h0 : p ≤ q) (h1 : q ≤ p + K) : Drawn w R A n c p K W := ⟨q, h0, h1, h.rd, h.gr⟩
end
theorem OwT.drawn {w w' : World} {lo R : Nat} {B : Option Addr} {d : Nat} {D : List Tm} (h : OwT w lo B d D) (hR : R < lo) (hg : w.grownBy w' (some R)) : OwT w' lo B d D :=
  h.grown hg (fun k hk e => by injection e with e; have := (h.lt k hk).1; omega)
theorem lit_cellsV (w : World) (t : TypeId) (l : List Int) : ∀ i (hi : i < l.length), (w.alloc (.cells (l.map (Value.int .i64)).toArray t)).cell? ⟨w.heap.size, i, none⟩ = some (.int .i64 (l[i]'hi)) := by
  intro i hi
  rw [cell_of_row _ _ i _ t (0, 0) (heap_alloc_new w _)]
  simp [hi]

set_option maxRecDepth 100000 in
set_option maxHeartbeats 4000000 in
theorem l20Timed {w : World} {R : Nat} {A : Option Addr} {n c : Nat} {p : Int} (h : Reader w R A n c p) (hp : p ≤ 99000) :
    Calls Try.prog 38 #[.pointer (some ⟨R, 0, none⟩)] w fun e w' => ∃ x : Tm, e = .returned x.val ∧ Drawn w R A n c p 6 w' := by
  have HOld := Lib.hid h.old
  have hRlt := h.lt
  have hb0 : Below w.heap.size w (w.alloc (.cells (tmCs ⟨0, 0, 0⟩) 25)) := (Below.refl _ _).alloc (Nat.le_refl _) _
  have KR : Hid (Bkk (w.alloc (.cells (tmCs ⟨0, 0, 0⟩) 25)) w.heap.size 25 (tmCs ⟨0, 0, 0⟩)) := Bkk.new _
  have DR := Lib.hid ((Dr.start h).below hb0)
  clear h hb0
  go_enter Try.func38, Try.ntmps38
  go_wp2_with (fail)
  obtain ⟨w0, hw0⟩ : ∃ X, X = (w.alloc (.cells (tmCs ⟨0, 0, 0⟩) 25)) := ⟨_, rfl⟩
  rw [← hw0] at KR DR ⊢
  clear hw0
  refine (pickR 9 DR.out.rd (by omega) (by omega) (by omega)).mono ?_
  rintro e w1 ⟨va, va0, va1, rfl, qa, qa0, qa1, hr, hg⟩
  replace KR := Lib.hid (KR.out.grownV hg (fun e => by injection e with e; omega))
  replace DR := Lib.hid (DR.out.draw hr hg)
  clear hr hg
  go_wp2_with (fail)
  refine (pickR 4 DR.out.rd (by omega) (by omega) (by omega)).mono ?_
  rintro e w2 ⟨vf, vf0, vf1, rfl, qb, qb0, qb1, hr, hg⟩
  replace KR := Lib.hid (KR.out.grownV hg (fun e => by injection e with e; omega))
  replace DR := Lib.hid (DR.out.draw hr hg)
  clear hr hg
  go_wp2_with (fail)
  refine (pickR 3 DR.out.rd (by omega) (by omega) (by omega)).mono ?_
  rintro e w3 ⟨vn, vn0, vn1, rfl, qc, qc0, qc1, hr, hg⟩
  replace KR := Lib.hid (KR.out.grownV hg (fun e => by injection e with e; omega))
  replace DR := Lib.hid (DR.out.draw hr hg)
  clear hr hg
  have hba : Below w3.heap.size w3 (w3.alloc (.cells #[.int .i64 va, .int .i64 vf, .int .i64 vn] 25)) := (Below.refl _ _).alloc (Nat.le_refl _) _
  have KX : Hid (Bkk (w3.alloc (.cells #[.int .i64 va, .int .i64 vf, .int .i64 vn] 25)) w3.heap.size 25 #[.int .i64 va, .int .i64 vf, .int .i64 vn]) := Bkk.new _
  have HXW := Lib.hid (show w.heap.size < w3.heap.size from KR.out.lt)
  replace KR := Lib.hid (KR.out.below hba)
  replace DR := Lib.hid (DR.out.below hba)
  clear hba
  go_upto_region 2 with (fail)
  obtain ⟨xb, hxb⟩ : ∃ X, X = w3.heap.size := ⟨_, rfl⟩
  obtain ⟨w4, hw4⟩ : ∃ X, X = w3.alloc (.cells #[.int .i64 va, .int .i64 vf, .int .i64 vn] 25) := ⟨_, rfl⟩
  rw [← hw4] at KX KR DR ⊢
  rw [← hxb] at KX HXW ⊢
  clear hw4 hxb
  have hxw := HXW.out
  go_wp2_with (fail)
  refine (pickR 14 DR.out.rd (by omega) (by omega) (by omega)).mono ?_
  rintro e w5 ⟨g, g0, g1, rfl, qd, qd0, qd1, hr, hg⟩
  replace KR := Lib.hid (KR.out.grownV hg (fun e => by injection e with e; omega))
  replace KX := Lib.hid (KX.out.grownV hg (fun e => by injection e with e; omega))
  replace DR := Lib.hid (DR.out.draw hr hg)
  clear hr hg
  by_cases h0 : g = 0
  · subst h0
    have hba : Below w5.heap.size w5 (w5.alloc (.cells #[.int .i64 (-1), .int .i64 1000, .int .i64 999] 3)) := (Below.refl _ _).alloc (Nat.le_refl _) _
    have hsz : R < w5.heap.size := DR.out.rd.lt
    replace KR := Lib.hid (KR.out.below hba)
    replace KX := Lib.hid (KX.out.below hba)
    replace DR := Lib.hid (DR.out.below hba)
    clear hba
    go_wp2_with (fail)
    refine (oneR w5.heap.size [-1, 1000, 999] DR.out.rd (by omega) (by simp) (by simp) (by omega) (lit_cellsV w5 3 [-1, 1000, 999])).mono ?_
    rintro e w6 ⟨v, rfl, qe, qe0, qe1, hr, hg⟩
    replace KR := Lib.hid (KR.out.grownV hg (fun e => by injection e with e; omega))
    replace KX := Lib.hid (KX.out.grownV hg (fun e => by injection e with e; omega))
    replace DR := Lib.hid (DR.out.draw hr hg)
    clear hr hg hsz
    have x0 : w6.cell? ⟨xb, 0, none⟩ = some (.int .i64 va) := KX.out.cell 0
    have x1 : w6.cell? ⟨xb, 1, none⟩ = some (.int .i64 vf) := KX.out.cell 1
    have x2 : w6.cell? ⟨xb, 2, none⟩ = some (.int .i64 vn) := KX.out.cell 2
    have xf := KX.out.frozen
    have lx := KX.out.lt
    go_upto_region 4 with (fail)
    replace KR := Lib.hid (KR.out.far (show w.heap.size ≠ xb by omega) 0 (.int .i64 v))
    replace DR := Lib.hid (DR.out.put HOld.out hRlt (show w.heap.size ≤ xb by omega) 0 (.int .i64 v))
    replace KX : Hid (Bkk (w6.setCell ⟨xb, 0, none⟩ (.int .i64 v)) xb 25 #[.int .i64 v, .int .i64 vf, .int .i64 vn]) := KX.out.set 0 (.int .i64 v)
    obtain ⟨w7, hw7⟩ : ∃ X, X = w6.setCell ⟨xb, 0, none⟩ (.int .i64 v) := ⟨_, rfl⟩
    rw [← hw7] at KR KX DR ⊢
    clear hw7 x0 x1 x2 xf lx
    have x0 : w7.cell? ⟨xb, 0, none⟩ = some (.int .i64 v) := KX.out.cell 0
    have x1 : w7.cell? ⟨xb, 1, none⟩ = some (.int .i64 vf) := KX.out.cell 1
    have x2 : w7.cell? ⟨xb, 2, none⟩ = some (.int .i64 vn) := KX.out.cell 2
    have r0 : w7.cell? ⟨w.heap.size, 0, none⟩ = some (.int .i64 0) := KR.out.cell 0
    have r1 : w7.cell? ⟨w.heap.size, 1, none⟩ = some (.int .i64 0) := KR.out.cell 1
    have r2 : w7.cell? ⟨w.heap.size, 2, none⟩ = some (.int .i64 0) := KR.out.cell 2
    have rf := KR.out.frozen
    have lr := KR.out.lt
    have lx := KX.out.lt
    have D9 := Lib.hid (Dr.out (Dr.put (Dr.put (Dr.put DR.out HOld.out hRlt (Nat.le_refl w.heap.size) 0 (.int .i64 v)) HOld.out hRlt (Nat.le_refl w.heap.size) 1 (.int .i64 vf)) HOld.out hRlt (Nat.le_refl w.heap.size) 2 (.int .i64 vn)) (p := p) (K := 6) (by omega) (by omega))
    clear KX KR DR
    go_wp2
    exact bodyPost_ret (v := Tm.val ⟨v, vf, vn⟩) (by simp [results, Try.results38, go_sem, r0, r1, r2, rf]) rfl ⟨⟨v, vf, vn⟩, rfl, D9.out⟩
  · have e0 : (g == 0) = false := by simpa using h0
    go_upto_region 4 with (fail)
    have x0 : w5.cell? ⟨xb, 0, none⟩ = some (.int .i64 va) := KX.out.cell 0
    have x1 : w5.cell? ⟨xb, 1, none⟩ = some (.int .i64 vf) := KX.out.cell 1
    have x2 : w5.cell? ⟨xb, 2, none⟩ = some (.int .i64 vn) := KX.out.cell 2
    have r0 : w5.cell? ⟨w.heap.size, 0, none⟩ = some (.int .i64 0) := KR.out.cell 0
    have r1 : w5.cell? ⟨w.heap.size, 1, none⟩ = some (.int .i64 0) := KR.out.cell 1
    have r2 : w5.cell? ⟨w.heap.size, 2, none⟩ = some (.int .i64 0) := KR.out.cell 2
    have rf := KR.out.frozen
    have lr := KR.out.lt
    have lx := KX.out.lt
    have D9 := Lib.hid (Dr.out (Dr.put (Dr.put (Dr.put DR.out HOld.out hRlt (Nat.le_refl w.heap.size) 0 (.int .i64 va)) HOld.out hRlt (Nat.le_refl w.heap.size) 1 (.int .i64 vf)) HOld.out hRlt (Nat.le_refl w.heap.size) 2 (.int .i64 vn)) (p := p) (K := 6) (by omega) (by omega))
    clear KX KR DR
    go_wp2
    exact bodyPost_ret (v := Tm.val ⟨va, vf, vn⟩) (by simp [results, Try.results38, go_sem, r0, r1, r2, rf]) rfl ⟨⟨va, vf, vn⟩, rfl, D9.out⟩

theorem oneV {w : World} {R : Nat} {A : Option Addr} {n c : Nat} {p : Int} (g : Nat) (l : List Int) (h : Reader w R A n c p) (hp : p ≤ 100000) (hl : 0 < l.length) (hl1 : l.length ≤ 1000) (hg : g ≠ R)
    (hc : ∀ i (hi : i < l.length), w.cell? ⟨g, i, none⟩ = some (.int .i64 (l[i]'hi))) :
    Calls Try.prog 50 #[.pointer (some ⟨R, 0, none⟩), .slice (some ⟨g, 0, none⟩) l.length l.length] w fun e w' => ∃ v : Int, v ∈ l ∧ e = .returned (.int .i64 v) ∧ Drawn w R A n c p 1 w' := by
  have H := Lib.hid h
  have HC := Lib.hid hc
  clear h hc
  go_enter Try.func50, Try.ntmps50
  go_wp2_with (fail)
  refine (pickR (l.length : Int) H.out hp (by omega) (by omega)).mono ?_
  rintro e w1 ⟨v, v0, v1, rfl, hd⟩
  obtain ⟨j, rfl⟩ := Int.eq_ofNat_of_zero_le v0
  obtain ⟨q, hq0, hq1, hr, hgr⟩ := hd
  have hcell := hgr.cell (HC.out j (by omega)) (by simpa using hg)
  have HD : Hid (Drawn w R A n c p 1 w1) := ⟨q, hq0, hq1, hr, hgr⟩
  have HM := Lib.hid (List.getElem_mem (l := l) (n := j) (by omega))
  clear hr hgr
  generalize l[j] = x at hcell HM
  go_wp2
  go_light
  go_ret
  exact ⟨x, HM.out, rfl, HD.out⟩

set_option maxRecDepth 100000 in
set_option maxHeartbeats 4000000 in
theorem l20Queue {w : World} {R : Nat} {A : Option Addr} {n c : Nat} {p : Int} (h : Reader w R A n c p) (hp : p ≤ 90000) :
    Calls Try.prog 36 #[.pointer (some ⟨R, 0, none⟩)] w fun e w' => ∃ (D : List Tm) (B : Option Addr) (d : Nat), e = .returned (.slice B D.length d) ∧ D.length ≤ 25 ∧ OwT w' w.heap.size B d D ∧ Drawn w R A n c p 160 w' := by
  obtain ⟨I, hi, hz0, hz1, hz2⟩ := parts_ofH infoTimed
  have I1 := Lib.hid hi
  have I2 := Lib.hid hz0
  have I3 := Lib.hid hz1
  have I4 := Lib.hid hz2
  clear hi hz0 hz1 hz2
  have HOld := Lib.hid h.old
  have hRlt := h.lt
  have hb0 : Below w.heap.size w (w.alloc (.cells #[] 25)) := (Below.refl _ _).alloc (Nat.le_refl _) _
  have OQ : Hid (OwT (w.alloc (.cells #[] 25)) w.heap.size (some ⟨w.heap.size, 0, none⟩) 0 []) := own_nil_newH w 25 3 rfl
  have DR := Lib.hid ((Dr.start h).below hb0)
  clear h hb0
  go_enter Try.func36, Try.ntmps36
  go_upto_region 2 with (fail)
  obtain ⟨w0, hw0⟩ : ∃ X, X = w.alloc (.cells #[] 25) := ⟨_, rfl⟩
  obtain ⟨B0, hB0⟩ : ∃ X : Option Addr, X = some ⟨w.heap.size, 0, none⟩ := ⟨_, rfl⟩
  rw [← hw0] at OQ DR ⊢
  rw [← hB0] at OQ ⊢
  clear hw0 hB0
  have hba : Below w0.heap.size w0 (w0.alloc (.cells #[.int .i64 0, .int .i64 3, .int .i64 8, .int .i64 25] 3)) := (Below.refl _ _).alloc (Nat.le_refl _) _
  have hsz : R < w0.heap.size := DR.out.rd.lt
  replace OQ := Lib.hid (OQ.out.below hba)
  replace DR := Lib.hid (DR.out.below hba)
  clear hba
  go_wp2_with (fail)
  refine (oneV w0.heap.size [0, 3, 8, 25] DR.out.rd (by omega) (by simp) (by simp) (by omega) (lit_cellsV w0 3 [0, 3, 8, 25])).mono ?_
  rintro e w1 ⟨m, hm, rfl, qa, qa0, qa1, hr, hg⟩
  have hm2 : 0 ≤ m ∧ m ≤ 25 := by simp at hm; omega
  obtain ⟨m, rfl⟩ : ∃ M : Nat, m = (M : Int) := ⟨m.toNat, by omega⟩
  replace OQ := Lib.hid (OQ.out.drawn hRlt hg)
  replace DR := Lib.hid (DR.out.draw hr hg)
  clear hr hg hm hsz
  go_wp2
  go_loopw [3, 4] (fun u v wr => ∃ (m : Nat) (Q : List Tm) (B : Option Addr) (b : Nat) (q : Int), u = .slice B Q.length b ∧ v = .int .i64 (m : Int) ∧ Q.length + m ≤ 25 ∧ p ≤ q ∧ q + 6 * (m : Int) ≤ p + 151 ∧ Hid (OwT wr w.heap.size B b Q) ∧ Hid (Dr w R A n c q wr)) (fun _ v _ => (intOf v).toNat)
  case atStart => exact ⟨m, [], B0, 0, qa, rfl, rfl, by simp; omega, by omega, by omega, OQ.out, DR.out⟩
  case round =>
    clear OQ DR hm2
    obtain ⟨m, Q, B, b, q, rfl, rfl, hQ, hq0, hq1, OQ, DR⟩ := hrel
    rcases m with _ | m
    · have i0 : ¬ (0 : Int) < ((0 : Nat) : Int) := by omega
      by_cases h1 : 1 < Q.length
      · have d1 : (1 : Int) < (Q.length : Int) := by omega
        go_wp2_with (fail)
        refine (pickR 12 DR.out.rd (by omega) (by omega) (by omega)).mono ?_
        rintro e w2 ⟨g, g0, g1, rfl, qb, qb0, qb1, hr, hg⟩
        replace OQ := Lib.hid (OQ.out.drawn hRlt hg)
        replace DR := Lib.hid (DR.out.draw hr hg)
        clear hr hg
        by_cases hg0 : g = 0
        · subst hg0
          obtain ⟨gq, rfl, hgl, hgw⟩ := own_g OQ.out (by omega)
          obtain ⟨k, hk⟩ : ∃ k, Q.length = k + 1 := ⟨Q.length - 1, by omega⟩
          obtain ⟨x, hx⟩ : ∃ x, at' Q 0 = x := ⟨_, rfl⟩
          obtain ⟨y, hy⟩ : ∃ y, at' Q k = y := ⟨_, rfl⟩
          obtain ⟨x0, x1, x2⟩ := (show w2.cell? ⟨gq, 0, none⟩ = some (.int .i64 x.a) ∧ w2.cell? ⟨gq, 1, none⟩ = some (.int .i64 x.f) ∧ w2.cell? ⟨gq, 2, none⟩ = some (.int .i64 x.n) by simpa using ownC OQ.out 0 (by omega) x hx)
          obtain ⟨y0, y1, y2⟩ := ownC OQ.out k (by omega) y hy
          have fz := OQ.out.frz
          have OS := Lib.hid (OQ.out.set 0 y (by omega))
          rw [show 0 * 3 = 0 from rfl, show 0 + 1 = 1 from rfl, show 0 + 2 = 2 from rfl] at OS
          have DS := Lib.hid (((DR.out.put HOld.out hRlt hgl 0 (.int .i64 y.a)).put HOld.out hRlt hgl 1 (.int .i64 y.f)).put HOld.out hRlt hgl 2 (.int .i64 y.n))
          obtain ⟨Q2, hQ2⟩ : ∃ X, X = Q.set 0 y := ⟨_, rfl⟩
          have hl2 : Q2.length = Q.length := by rw [hQ2, List.length_set]
          rw [← hQ2] at OS
          have HL2 := Lib.hid (show k + 1 = Q2.length by rw [hl2, hk])
          have hQ9 : Q2.length ≤ 25 := by omega
          have w9 : IntKind.i64.wrap (k : Int) = (k : Int) := wrap_nat k (by omega)
          have k0 : (0 : Int) ≤ (k : Int) := by omega
          have k1 : (k : Int) < (k : Int) + 1 := by omega
          have k2 : (0 : Int) < (k : Int) + 1 := by omega
          rw [hk] at d1 ⊢
          clear hQ2 hl2 hx hy hk hgw OQ DR
          go_upto_region 10 with (fail)
          obtain ⟨w3, hw3⟩ : ∃ X, X = (((w2.setCell ⟨gq, 0, none⟩ (.int .i64 y.a)).setCell ⟨gq, 1, none⟩ (.int .i64 y.f)).setCell ⟨gq, 2, none⟩ (.int .i64 y.n)) := ⟨_, rfl⟩
          rw [← hw3] at OS DS ⊢
          have OQ := OS
          have DR := DS
          rw [HL2.out]
          clear hw3 x0 x1 x2 y0 y1 y2 fz OS DS HL2
          have hba : Below w3.heap.size w3 (w3.alloc (.cells #[] 25)) := (Below.refl _ _).alloc (Nat.le_refl _) _
          have OE : Hid ((w3.alloc (.cells #[] 25)).ownsRow w3.heap.size 25 3 (.slice (some ⟨w3.heap.size, 0, none⟩) 0 0) 0 []) := own_nil_newH w3 25 3 rfl
          have LZ := Lib.hid (show w.heap.size ≤ w3.heap.size from DR.out.gr.size)
          replace OQ := Lib.hid (OQ.out.below hba)
          replace DR := Lib.hid (DR.out.below hba)
          have LE := Lib.hid hba.size
          clear hba
          go_wp2_with (at_builtin; go_loud (refine list_app (f := Tm.cells) (fun _ => rfl) rfl _ _ 23 rfl w3.heap.size 25 I (.agg #[.int .i64 0, .int .i64 0, .int .i64 0]) 24 Try.underlying23 I1.out I2.out I3.out I4.out rfl (by decide) (.slice (some ⟨w3.heap.size, 0, none⟩) 0 0) 0 [] rfl OE.out _ _ Q2.length Q2 rfl rfl OQ.out.rdT.r OQ.out.rdT.nA (tm_one _) (by unfold maxLen; omega) (by omega) LE.out ?_))
          intro v9 w9 ho hg hp9
          (try simp only [Nat.zero_add, List.nil_append] at ho)
          obtain ⟨A9, a9, rfl⟩ := own_formH ho
          have hge := own_block_ge (show World.ownsRow _ _ _ _ _ _ _ from OE.out)
          replace DR := Lib.hid (DR.out.row HOld.out hRlt hg (fun k hk => Nat.le_trans LZ.out (hge k hk).1))
          have OA := Lib.hid (OwT.base (show OwT w9 w3.heap.size A9 a9 Q2 from ho) LZ.out)
          have D9 := Lib.hid (DR.out.out (p := p) (K := 160) (by omega) (by omega))
          clear ho hg hp9 hge OE LE OQ DR
          go_wp2
          go_light
          go_ret
          exact ⟨Q2, A9, a9, rfl, by omega, OA.out, D9.out⟩
        · have e0 : (g == 0) = false := by simpa using hg0
          go_upto_region 10 with (fail)
          have hba : Below w2.heap.size w2 (w2.alloc (.cells #[] 25)) := (Below.refl _ _).alloc (Nat.le_refl _) _
          have OE : Hid ((w2.alloc (.cells #[] 25)).ownsRow w2.heap.size 25 3 (.slice (some ⟨w2.heap.size, 0, none⟩) 0 0) 0 []) := own_nil_newH w2 25 3 rfl
          have LZ := Lib.hid (show w.heap.size ≤ w2.heap.size from DR.out.gr.size)
          replace OQ := Lib.hid (OQ.out.below hba)
          replace DR := Lib.hid (DR.out.below hba)
          have LE := Lib.hid hba.size
          clear hba
          go_wp2_with (at_builtin; go_loud (refine list_app (f := Tm.cells) (fun _ => rfl) rfl _ _ 23 rfl w2.heap.size 25 I (.agg #[.int .i64 0, .int .i64 0, .int .i64 0]) 24 Try.underlying23 I1.out I2.out I3.out I4.out rfl (by decide) (.slice (some ⟨w2.heap.size, 0, none⟩) 0 0) 0 [] rfl OE.out _ _ Q.length Q rfl rfl OQ.out.rdT.r OQ.out.rdT.nA (tm_one _) (by unfold maxLen; omega) (by omega) LE.out ?_))
          intro v9 w9 ho hg hp9
          (try simp only [Nat.zero_add, List.nil_append] at ho)
          obtain ⟨A9, a9, rfl⟩ := own_formH ho
          have hge := own_block_ge (show World.ownsRow _ _ _ _ _ _ _ from OE.out)
          replace DR := Lib.hid (DR.out.row HOld.out hRlt hg (fun k hk => Nat.le_trans LZ.out (hge k hk).1))
          have OA := Lib.hid (OwT.base (show OwT w9 w2.heap.size A9 a9 Q from ho) LZ.out)
          have D9 := Lib.hid (DR.out.out (p := p) (K := 160) (by omega) (by omega))
          clear ho hg hp9 hge OE LE OQ DR
          go_wp2
          go_light
          go_ret
          exact ⟨Q, A9, a9, rfl, by omega, OA.out, D9.out⟩
      · have d1 : decide ((1 : Int) < (Q.length : Int)) = false := decide_eq_false (by omega)
        go_upto_region 10 with (fail)
        have hba : Below wr.heap.size wr (wr.alloc (.cells #[] 25)) := (Below.refl _ _).alloc (Nat.le_refl _) _
        have OE : Hid ((wr.alloc (.cells #[] 25)).ownsRow wr.heap.size 25 3 (.slice (some ⟨wr.heap.size, 0, none⟩) 0 0) 0 []) := own_nil_newH wr 25 3 rfl
        have LZ := Lib.hid (show w.heap.size ≤ wr.heap.size from DR.out.gr.size)
        replace OQ := Lib.hid (OQ.out.below hba)
        replace DR := Lib.hid (DR.out.below hba)
        have LE := Lib.hid hba.size
        clear hba
        go_wp2_with (at_builtin; go_loud (refine list_app (f := Tm.cells) (fun _ => rfl) rfl _ _ 23 rfl wr.heap.size 25 I (.agg #[.int .i64 0, .int .i64 0, .int .i64 0]) 24 Try.underlying23 I1.out I2.out I3.out I4.out rfl (by decide) (.slice (some ⟨wr.heap.size, 0, none⟩) 0 0) 0 [] rfl OE.out _ _ Q.length Q rfl rfl OQ.out.rdT.r OQ.out.rdT.nA (tm_one _) (by unfold maxLen; omega) (by omega) LE.out ?_))
        intro v9 w9 ho hg hp9
        (try simp only [Nat.zero_add, List.nil_append] at ho)
        obtain ⟨A9, a9, rfl⟩ := own_formH ho
        have hge := own_block_ge (show World.ownsRow _ _ _ _ _ _ _ from OE.out)
        replace DR := Lib.hid (DR.out.row HOld.out hRlt hg (fun k hk => Nat.le_trans LZ.out (hge k hk).1))
        have OA := Lib.hid (OwT.base (show OwT w9 wr.heap.size A9 a9 Q from ho) LZ.out)
        have D9 := Lib.hid (DR.out.out (p := p) (K := 160) (by omega) (by omega))
        clear ho hg hp9 hge OE LE OQ DR
        go_wp2
        go_light
        go_ret
        exact ⟨Q, A9, a9, rfl, by omega, OA.out, D9.out⟩
    · have i0 : (0 : Int) < ((m + 1 : Nat) : Int) := by omega
      go_wp2_with (fail)
      refine (l20Timed DR.out.rd (by omega)).mono ?_
      rintro e w2 ⟨x, rfl, qb, qb0, qb1, hr, hg⟩
      replace OQ := Lib.hid (OQ.out.drawn hRlt hg)
      replace DR := Lib.hid (DR.out.draw hr hg)
      clear hr hg
      have AD := Lib.hid (specQueueAdd B b Q x w2 (by omega) OQ.out.rdT)
      obtain ⟨⟨Q2, u⟩, hY⟩ : ∃ Y, addQ Q x = Y := ⟨_, rfl⟩
      have hl2 : Q2.length ≤ Q.length + 1 := by have := addQ_len Q x; rw [hY] at this; exact this
      rw [hY] at AD
      clear hY
      go_wp2_with (fail)
      refine AD.out.mono ?_
      rintro e w3 ⟨B2, b2, rfl, o2, hb⟩
      have OQ2 := Lib.hid (o2.base DR.out.gr.size)
      replace OQ := Lib.hid (OQ.out.below hb)
      replace DR := Lib.hid (DR.out.below hb)
      have w9 : IntKind.i64.wrap (m : Int) = (m : Int) := wrap_nat m (by omega)
      clear o2 hb AD
      rcases u with _ | _
      · clear OQ2
        go_wp2
        go_roundw
        case rel => exact ⟨m, Q, B, b, qb, rfl, by go_num, by omega, by omega, by omega, OQ.out, DR.out⟩
        case measure => (simp [intOf]; try omega)
      · clear OQ
        go_wp2
        go_roundw
        case rel => exact ⟨m, Q2, B2, b2, qb, rfl, by go_num, by omega, by omega, by omega, OQ2.out, DR.out⟩
        case measure => (simp [intOf]; try omega)

end Go.Proofs.Ytgnemgnhjallhaa
