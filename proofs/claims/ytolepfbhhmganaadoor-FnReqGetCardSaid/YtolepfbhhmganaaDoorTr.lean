/- A request drawn. -/
import Derived.Test.YtolepfbhhmganaaDoorTq
namespace Go.Proofs.YtolepfbhhmganaaDoor
open Go.ChangeShapes Go.WideShapes Go.ChangeAt Go.RowKit
set_option linter.unusedVariables false

/-- Block g is just these five cells, none frozen. -/
def Five (w : World) (g : Nat) (t : TypeId) (u0 u1 u2 u3 u4 : Value) : Prop := w.heap[g]? = some (.cells #[u0, u1, u2, u3, u4] t)

section
variable {w w' : World} {g : Nat} {t : TypeId} {u0 u1 u2 u3 u4 : Value}
theorem Five.lt (h : Five w g t u0 u1 u2 u3 u4) : g < w.heap.size := by
  unfold Five at h
  rcases Nat.lt_or_ge g w.heap.size with h1 | h1
  · exact h1
  · rw [Array.getElem?_eq_none h1] at h
    cases h
theorem Five.cells (h : Five w g t u0 u1 u2 u3 u4) : w.cell? ⟨g, 0, none⟩ = some u0 ∧ w.cell? ⟨g, 1, none⟩ = some u1 ∧ w.cell? ⟨g, 2, none⟩ = some u2 ∧ w.cell? ⟨g, 3, none⟩ = some u3 ∧ w.cell? ⟨g, 4, none⟩ = some u4 := by
  have k := fun j => cell_of_row w g j _ t (0, 0) h
  exact ⟨by simpa using k 0, by simpa using k 1, by simpa using k 2, by simpa using k 3, by simpa using k 4⟩
theorem Five.frozen (h : Five w g t u0 u1 u2 u3 u4) (j : Nat) : w.frozen? ⟨g, j, none⟩ = false := frozen_of_row w g j _ t h
theorem Five.new (w : World) : Five (w.alloc (.cells #[u0, u1, u2, u3, u4] t)) w.heap.size t u0 u1 u2 u3 u4 := heap_alloc_new w _
theorem Five.grown {row : Option Nat} (h : Five w g t u0 u1 u2 u3 u4) (hb : w.grownBy w' row) (hg : some g ≠ row) : Five w' g t u0 u1 u2 u3 u4 := (hb.block g h.lt hg).trans h
theorem Five.alloc (h : Five w g t u0 u1 u2 u3 u4) (o : Obj) : Five (w.alloc o) g t u0 u1 u2 u3 u4 := h.grown (World.grownBy_alloc w o none) (by simp)
theorem Five.set0 (h : Five w g t u0 u1 u2 u3 u4) (v : Value) : Five (w.setCell ⟨g, 0, none⟩ v) g t v u1 u2 u3 u4 := heap_setCell_same w g 0 _ t v h
theorem Five.set1 (h : Five w g t u0 u1 u2 u3 u4) (v : Value) : Five (w.setCell ⟨g, 1, none⟩ v) g t u0 v u2 u3 u4 := heap_setCell_same w g 1 _ t v h
theorem Five.set2 (h : Five w g t u0 u1 u2 u3 u4) (v : Value) : Five (w.setCell ⟨g, 2, none⟩ v) g t u0 u1 v u3 u4 := heap_setCell_same w g 2 _ t v h
theorem Five.set3 (h : Five w g t u0 u1 u2 u3 u4) (v : Value) : Five (w.setCell ⟨g, 3, none⟩ v) g t u0 u1 u2 v u4 := heap_setCell_same w g 3 _ t v h
theorem Five.set4 (h : Five w g t u0 u1 u2 u3 u4) (v : Value) : Five (w.setCell ⟨g, 4, none⟩ v) g t u0 u1 u2 u3 v := heap_setCell_same w g 4 _ t v h
end

theorem grown_new {a b c : World} {R x : Nat} (h : a.grownBy b (some R)) (k : b.grownBy c (some x)) (hx : a.heap.size ≤ x) : a.grownBy c (some R) :=
  ⟨k.os.trans h.os, k.tape.trans h.tape, k.output.trans h.output, Nat.le_trans h.size k.size, fun i hi hr => (k.block i (Nat.lt_of_lt_of_le hi h.size) (by simp; omega)).trans (h.block i hi hr)⟩

/-- Behind a store into a block that is none of the reader's. -/
theorem Reader.set {w : World} {R : Nat} {A : Option Addr} {n c : Nat} {p : Int} (h : Reader w R A n c p) (B x j : Nat) (v : Value) (hB : ∀ b off, A = some ⟨b, off, none⟩ → 0 < n → b < B) (hR : R < B) (hx : B ≤ x) : Reader (w.setCell ⟨x, j, none⟩ v) R A n c p := by
  refine ⟨(heap_setCell_other w ⟨x, j, none⟩ R v (by simp; omega)).trans h.at_, fun i hi => ?_, h.far, h.lo, h.len⟩
  obtain ⟨b, off, u, hA, hc, hu⟩ := h.bytes i hi
  have hb := hB b off hA (by omega)
  exact ⟨b, off, u, hA, (grownBy_set w x j v).cell hc (by simp; omega), hu⟩

theorem Reader.old {w : World} {R : Nat} {A : Option Addr} {n c : Nat} {p : Int} (h : Reader w R A n c p) : ∀ b off, A = some ⟨b, off, none⟩ → 0 < n → b < w.heap.size := by
  intro b off hA h0
  obtain ⟨b', off', u, hA', hc, _⟩ := h.bytes 0 h0
  rw [hA] at hA'
  cases hA'
  exact World.block_lt_of_cell? w _ hc

theorem Drawn.alloc {w w' : World} {R : Nat} {A : Option Addr} {n c : Nat} {p K : Int} (h : Drawn w R A n c p K w') (o : Obj) : Drawn w R A n c p K (w'.alloc o) := by
  obtain ⟨q, h0, h1, hr, hg⟩ := h
  exact ⟨q, h0, h1, hr.below ((Below.refl _ _).alloc (Nat.le_refl _) o), grownBy_trans hg (World.grownBy_alloc _ _ _)⟩

/-- The result's five cells written, behind all draws. -/
theorem back5 {w W : World} {R : Nat} {A : Option Addr} {n c : Nat} {p K q : Int} (u0 u1 u2 u3 u4 : Value) (hq0 : p ≤ q) (hq1 : q ≤ p + K) (hr : Reader W R A n c q) (hg : w.grownBy W (some R)) (hOld : ∀ b off, A = some ⟨b, off, none⟩ → 0 < n → b < w.heap.size) (hR : R < w.heap.size) :
    Drawn w R A n c p K (((((W.setCell ⟨w.heap.size, 0, none⟩ u0).setCell ⟨w.heap.size, 1, none⟩ u1).setCell ⟨w.heap.size, 2, none⟩ u2).setCell ⟨w.heap.size, 3, none⟩ u3).setCell ⟨w.heap.size, 4, none⟩ u4) := by
  refine ⟨q, hq0, hq1, ?_, ?_⟩
  · exact ((((hr.set w.heap.size _ 0 u0 hOld hR (Nat.le_refl _)).set w.heap.size _ 1 u1 hOld hR (Nat.le_refl _)).set w.heap.size _ 2 u2 hOld hR (Nat.le_refl _)).set w.heap.size _ 3 u3 hOld hR (Nat.le_refl _)).set w.heap.size _ 4 u4 hOld hR (Nat.le_refl _)
  · exact grown_new (grown_new (grown_new (grown_new (grown_new hg (grownBy_set _ _ 0 u0) (Nat.le_refl _)) (grownBy_set _ _ 1 u1) (Nat.le_refl _)) (grownBy_set _ _ 2 u2) (Nat.le_refl _)) (grownBy_set _ _ 3 u3) (Nat.le_refl _)) (grownBy_set _ _ 4 u4) (Nat.le_refl _)

set_option maxRecDepth 100000 in
set_option maxHeartbeats 4000000 in
theorem l20Req {w : World} {R : Nat} {A : Option Addr} {n c : Nat} {p : Int} (h : Reader w R A n c p) (hp : p ≤ 99000) :
    Calls Tryd.prog 41 #[.pointer (some ⟨R, 0, none⟩)] w fun e w' => ∃ a b o x y : Int, e = .returned (req a b o x y) ∧ Drawn w R A n c p 5 w' := by
  have hOld := Lib.hid h.old
  have hRlt := h.lt
  have RD := Lib.hid (h.below ((Below.refl w.heap.size w).alloc (Nat.le_refl _) (.cells #[.int .i64 0, .int .i64 0, .int .i64 0, .int .i64 0, .int .i64 0] 25)))
  have GR := Lib.hid (World.grownBy_alloc w (.cells #[.int .i64 0, .int .i64 0, .int .i64 0, .int .i64 0, .int .i64 0] 25) (some R))
  have FS := Lib.hid (Five.new (u0 := .int .i64 0) (u1 := .int .i64 0) (u2 := .int .i64 0) (u3 := .int .i64 0) (u4 := .int .i64 0) (t := 25) w)
  have hlo := h.lo
  have hsR : w.heap.size ≠ R := by omega
  clear h
  go_enter Tryd.func41, Tryd.ntmps41
  go_wp2_with (fail)
  refine (pickR 3 RD.out (by omega) (by omega) (by omega)).mono ?_
  rintro e Wa ⟨a, a0, a1, rfl, qa, qa0, qa1, hr, hgr⟩
  have RD := Lib.hid hr
  have GR := Lib.hid (grownBy_trans GR.out hgr)
  have FS := Lib.hid (FS.out.grown hgr (by simpa using hsR))
  clear hr hgr
  go_wp2_with (fail)
  refine (pickR 6 RD.out (by omega) (by omega) (by omega)).mono ?_
  rintro e Wb ⟨b, b0, b1, rfl, qb, qb0, qb1, hr, hgr⟩
  have RD := Lib.hid hr
  have GR := Lib.hid (grownBy_trans GR.out hgr)
  have FS := Lib.hid (FS.out.grown hgr (by simpa using hsR))
  clear hr hgr
  go_wp2_with (fail)
  refine (pickR 5 RD.out (by omega) (by omega) (by omega)).mono ?_
  rintro e Wd ⟨d, d0, d1, rfl, qd, qd0, qd1, hr, hgr⟩
  have RD := Lib.hid hr
  have GR := Lib.hid (grownBy_trans GR.out hgr)
  have FS := Lib.hid (FS.out.grown hgr (by simpa using hsR))
  clear hr hgr
  have hWd : w.heap.size < Wd.heap.size := FS.out.lt
  have hxR : Wd.heap.size ≠ R := by omega
  by_cases h2 : d = 1
  · subst h2
    have RD := Lib.hid (RD.out.below ((Below.refl Wd.heap.size Wd).alloc (Nat.le_refl _) (.cells #[.int .i64 (1 + a), .int .i64 (1 + b), .int .i64 2, .int .i64 0, .int .i64 0] 25)))
    have GR := Lib.hid (grownBy_trans GR.out (World.grownBy_alloc Wd (.cells #[.int .i64 (1 + a), .int .i64 (1 + b), .int .i64 2, .int .i64 0, .int .i64 0] 25) (some R)))
    have FS := Lib.hid (FS.out.alloc (.cells #[.int .i64 (1 + a), .int .i64 (1 + b), .int .i64 2, .int .i64 0, .int .i64 0] 25))
    have FX := Lib.hid (Five.new (u0 := .int .i64 (1 + a)) (u1 := .int .i64 (1 + b)) (u2 := .int .i64 2) (u3 := .int .i64 0) (u4 := .int .i64 0) (t := 25) Wd)
    go_wp2_with (fail)
    refine (pickR 3 RD.out (by omega) (by omega) (by omega)).mono ?_
    rintro e Ws ⟨s, s0, s1, rfl, qs, qs0, qs1, hr, hgr⟩
    have RD := Lib.hid hr
    have GR := Lib.hid (grownBy_trans GR.out hgr)
    have FS := Lib.hid (FS.out.grown hgr (by simpa using hsR))
    have FX := Lib.hid (FX.out.grown hgr (by simpa using hxR))
    obtain ⟨x0, x1, x2, x3, x4⟩ := FX.out.cells
    have xf := FX.out.frozen
    clear hr hgr
    go_wp2_with (fail)
    have RD := Lib.hid (RD.out.set w.heap.size Wd.heap.size 3 (.int .i64 (s - 1)) hOld.out hRlt (by omega))
    have GR := Lib.hid (grown_new GR.out (grownBy_set Ws Wd.heap.size 3 (.int .i64 (s - 1))) (by omega))
    have FS := Lib.hid (FS.out.grown (grownBy_set Ws Wd.heap.size 3 (.int .i64 (s - 1))) (by simp; omega))
    have FX := Lib.hid (FX.out.set3 (.int .i64 (s - 1)))
    clear x0 x1 x2 x3 x4 xf
    refine (pickR 3 RD.out (by omega) (by omega) (by omega)).mono ?_
    rintro e Wt ⟨t, t0, t1, rfl, qt, qt0, qt1, hr, hgr⟩
    have RD := Lib.hid hr
    have GR := Lib.hid (grownBy_trans GR.out hgr)
    have FS := Lib.hid (FS.out.grown hgr (by simpa using hsR))
    have FX := Lib.hid (FX.out.grown hgr (by simpa using hxR))
    obtain ⟨x0, x1, x2, x3, x4⟩ := FX.out.cells
    have xf := FX.out.frozen
    clear hr hgr
    obtain ⟨s0, s1, s2, s3, s4⟩ := FS.out.cells
    have sf := FS.out.frozen
    go_wp2
    go_light
    refine bodyPost_ret (v := req (1 + a) (1 + b) 2 (s - 1) (t - 1)) (by simp [results, Tryd.results41, go_sem, s0, s1, s2, s3, s4]) rfl ⟨_, _, _, _, _, rfl, ?_⟩
    exact back5 _ _ _ _ _ (by omega) (by omega) (RD.out.set w.heap.size Wd.heap.size 4 (.int .i64 (t - 1)) hOld.out hRlt (by omega)) (grown_new GR.out (grownBy_set Wt Wd.heap.size 4 (.int .i64 (t - 1))) (by omega)) hOld.out hRlt
  by_cases h4 : d = 3
  · subst h4
    have RD := Lib.hid (RD.out.below ((Below.refl Wd.heap.size Wd).alloc (Nat.le_refl _) (.cells #[.int .i64 (1 + a), .int .i64 (1 + b), .int .i64 4, .int .i64 0, .int .i64 0] 25)))
    have GR := Lib.hid (grownBy_trans GR.out (World.grownBy_alloc Wd (.cells #[.int .i64 (1 + a), .int .i64 (1 + b), .int .i64 4, .int .i64 0, .int .i64 0] 25) (some R)))
    have FS := Lib.hid (FS.out.alloc (.cells #[.int .i64 (1 + a), .int .i64 (1 + b), .int .i64 4, .int .i64 0, .int .i64 0] 25))
    have FX := Lib.hid (Five.new (u0 := .int .i64 (1 + a)) (u1 := .int .i64 (1 + b)) (u2 := .int .i64 4) (u3 := .int .i64 0) (u4 := .int .i64 0) (t := 25) Wd)
    go_wp2_with (fail)
    refine (pickR 3 RD.out (by omega) (by omega) (by omega)).mono ?_
    rintro e Ws ⟨s, s0, s1, rfl, qs, qs0, qs1, hr, hgr⟩
    have RD := Lib.hid hr
    have GR := Lib.hid (grownBy_trans GR.out hgr)
    have FS := Lib.hid (FS.out.grown hgr (by simpa using hsR))
    have FX := Lib.hid (FX.out.grown hgr (by simpa using hxR))
    obtain ⟨x0, x1, x2, x3, x4⟩ := FX.out.cells
    have xf := FX.out.frozen
    clear hr hgr
    obtain ⟨s0, s1, s2, s3, s4⟩ := FS.out.cells
    have sf := FS.out.frozen
    go_wp2
    go_light
    refine bodyPost_ret (v := req (1 + a) (1 + b) 4 (1 + s) 0) (by simp [results, Tryd.results41, go_sem, s0, s1, s2, s3, s4]) rfl ⟨_, _, _, _, _, rfl, ?_⟩
    exact back5 _ _ _ _ _ (by omega) (by omega) (RD.out.set w.heap.size Wd.heap.size 3 (.int .i64 (1 + s)) hOld.out hRlt (by omega)) (grown_new GR.out (grownBy_set Ws Wd.heap.size 3 (.int .i64 (1 + s))) (by omega)) hOld.out hRlt
  by_cases h5 : d = 4
  · subst h5
    have RD := Lib.hid (RD.out.below ((Below.refl Wd.heap.size Wd).alloc (Nat.le_refl _) (.cells #[.int .i64 (1 + a), .int .i64 (1 + b), .int .i64 5, .int .i64 0, .int .i64 0] 25)))
    have GR := Lib.hid (grownBy_trans GR.out (World.grownBy_alloc Wd (.cells #[.int .i64 (1 + a), .int .i64 (1 + b), .int .i64 5, .int .i64 0, .int .i64 0] 25) (some R)))
    have FS := Lib.hid (FS.out.alloc (.cells #[.int .i64 (1 + a), .int .i64 (1 + b), .int .i64 5, .int .i64 0, .int .i64 0] 25))
    have FX := Lib.hid (Five.new (u0 := .int .i64 (1 + a)) (u1 := .int .i64 (1 + b)) (u2 := .int .i64 5) (u3 := .int .i64 0) (u4 := .int .i64 0) (t := 25) Wd)
    go_wp2_with (fail)
    refine (pickR 3 RD.out (by omega) (by omega) (by omega)).mono ?_
    rintro e Ws ⟨s, s0, s1, rfl, qs, qs0, qs1, hr, hgr⟩
    have RD := Lib.hid hr
    have GR := Lib.hid (grownBy_trans GR.out hgr)
    have FS := Lib.hid (FS.out.grown hgr (by simpa using hsR))
    have FX := Lib.hid (FX.out.grown hgr (by simpa using hxR))
    obtain ⟨x0, x1, x2, x3, x4⟩ := FX.out.cells
    have xf := FX.out.frozen
    clear hr hgr
    go_wp2_with (fail)
    have RD := Lib.hid (RD.out.set w.heap.size Wd.heap.size 3 (.int .i64 (1 + s)) hOld.out hRlt (by omega))
    have GR := Lib.hid (grown_new GR.out (grownBy_set Ws Wd.heap.size 3 (.int .i64 (1 + s))) (by omega))
    have FS := Lib.hid (FS.out.grown (grownBy_set Ws Wd.heap.size 3 (.int .i64 (1 + s))) (by simp; omega))
    have FX := Lib.hid (FX.out.set3 (.int .i64 (1 + s)))
    clear x0 x1 x2 x3 x4 xf
    refine (pickR 3 RD.out (by omega) (by omega) (by omega)).mono ?_
    rintro e Wt ⟨t, t0, t1, rfl, qt, qt0, qt1, hr, hgr⟩
    have RD := Lib.hid hr
    have GR := Lib.hid (grownBy_trans GR.out hgr)
    have FS := Lib.hid (FS.out.grown hgr (by simpa using hsR))
    have FX := Lib.hid (FX.out.grown hgr (by simpa using hxR))
    obtain ⟨x0, x1, x2, x3, x4⟩ := FX.out.cells
    have xf := FX.out.frozen
    clear hr hgr
    obtain ⟨s0, s1, s2, s3, s4⟩ := FS.out.cells
    have sf := FS.out.frozen
    go_wp2
    go_light
    refine bodyPost_ret (v := req (1 + a) (1 + b) 5 (1 + s) (1 + t)) (by simp [results, Tryd.results41, go_sem, s0, s1, s2, s3, s4]) rfl ⟨_, _, _, _, _, rfl, ?_⟩
    exact back5 _ _ _ _ _ (by omega) (by omega) (RD.out.set w.heap.size Wd.heap.size 4 (.int .i64 (1 + t)) hOld.out hRlt (by omega)) (grown_new GR.out (grownBy_set Wt Wd.heap.size 4 (.int .i64 (1 + t))) (by omega)) hOld.out hRlt
  have e2 : ((1 : Int) + d == 2) = false := by simp; omega
  have e4 : ((1 : Int) + d == 4) = false := by simp; omega
  have e5 : ((1 : Int) + d == 5) = false := by simp; omega
  obtain ⟨s0, s1, s2, s3, s4⟩ := FS.out.cells
  have sf := FS.out.frozen
  go_wp2
  go_light
  have FT := ((((((FS.out.set0 (.int .i64 (1 + a))).set1 (.int .i64 (1 + b))).set2 (.int .i64 (1 + d))).set3 (.int .i64 0)).set4 (.int .i64 0)).alloc (.cells #[.int .i64 (1 + a), .int .i64 (1 + b), .int .i64 (1 + d), .int .i64 0, .int .i64 0] 25))
  obtain ⟨g0, g1, g2, g3, g4⟩ := FT.cells
  refine bodyPost_ret (v := req (1 + a) (1 + b) (1 + d) 0 0) (by simp [results, Tryd.results41, go_sem, g0, g1, g2, g3, g4]) rfl ⟨_, _, _, _, _, rfl, ?_⟩
  exact Drawn.alloc (back5 _ _ _ _ _ (by omega) (by omega) RD.out GR.out hOld.out hRlt) _
end Go.Proofs.YtolepfbhhmganaaDoor
