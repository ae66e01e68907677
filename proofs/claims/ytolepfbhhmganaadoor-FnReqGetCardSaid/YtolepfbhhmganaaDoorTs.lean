/- Any request drawn. -/
import Derived.Test.YtolepfbhhmganaaDoorTr
namespace Go.Proofs.YtolepfbhhmganaaDoor
open Go.ChangeShapes Go.WideShapes Go.ChangeAt Go.RowKit
set_option linter.unusedVariables false

theorem l20AnyReq {w : World} {R : Nat} {A : Option Addr} {n c : Nat} {p : Int} (h : Reader w R A n c p) (hp : p ≤ 90000) :
    Calls Tryd.prog 24 #[.pointer (some ⟨R, 0, none⟩)] w fun e w' => ∃ a b o x y : Int, e = .returned (req a b o x y) ∧ Drawn w R A n c p 7 w' := by
  have hOld := Lib.hid h.old
  have hRlt := h.lt
  have RD := Lib.hid (h.below ((Below.refl w.heap.size w).alloc (Nat.le_refl _) (.cells #[.int .i64 0, .int .i64 0, .int .i64 0, .int .i64 0, .int .i64 0] 25)))
  have GR := Lib.hid (World.grownBy_alloc w (.cells #[.int .i64 0, .int .i64 0, .int .i64 0, .int .i64 0, .int .i64 0] 25) (some R))
  have FS := Lib.hid (Five.new (u0 := .int .i64 0) (u1 := .int .i64 0) (u2 := .int .i64 0) (u3 := .int .i64 0) (u4 := .int .i64 0) (t := 25) w)
  have hlo := h.lo
  have hsR : w.heap.size ≠ R := by omega
  clear h
  go_enter Tryd.func24, Tryd.ntmps24
  go_wp2_with (fail)
  refine (l20Req RD.out (by omega)).mono ?_
  rintro e Wa ⟨a, b, o, x, y, rfl, qa, qa0, qa1, hr, hgr⟩
  have RD := Lib.hid hr
  have GR := Lib.hid (grownBy_trans GR.out hgr)
  have FS := Lib.hid (FS.out.grown hgr (by simpa using hsR))
  have hWa := FS.out.lt
  clear hr hgr
  obtain ⟨s0, s1, s2, s3, s4⟩ := FS.out.cells
  have sf := FS.out.frozen
  go_wp2_with (fail)
  clear s0 s1 s2 s3 s4 sf
  have hWa0 := hWa
  have RD := Lib.hid (RD.out.below ((Below.refl Wa.heap.size Wa).alloc (Nat.le_refl _) (.cells #[.int .i64 a, .int .i64 b, .int .i64 o, .int .i64 x, .int .i64 y] 25)))
  have GR := Lib.hid (grownBy_trans GR.out (World.grownBy_alloc Wa (.cells #[.int .i64 a, .int .i64 b, .int .i64 o, .int .i64 x, .int .i64 y] 25) (some R)))
  have FS := Lib.hid (FS.out.alloc (.cells #[.int .i64 a, .int .i64 b, .int .i64 o, .int .i64 x, .int .i64 y] 25))
  have FX := Lib.hid (Five.new (u0 := .int .i64 a) (u1 := .int .i64 b) (u2 := .int .i64 o) (u3 := .int .i64 x) (u4 := .int .i64 y) (t := 25) Wa)
  have hWa1 : w.heap.size < Wa.heap.size := by simpa using hWa0
  have hxR : Wa.heap.size ≠ R := by omega
  refine (pickR 12 RD.out (by omega) (by omega) (by omega)).mono ?_
  rintro e Wd ⟨d, d0, d1, rfl, qd, qd0, qd1, hr, hgr⟩
  have RD := Lib.hid hr
  have GR := Lib.hid (grownBy_trans GR.out hgr)
  have FS := Lib.hid (FS.out.grown hgr (by simpa using hsR))
  have FX := Lib.hid (FX.out.grown hgr (by simpa using hxR))
  have hWd := FS.out.lt
  clear hr hgr
  by_cases h0 : d = 0
  · subst h0
    obtain ⟨s0, s1, s2, s3, s4⟩ := FS.out.cells
    have sf := FS.out.frozen
    go_wp2
    go_light
    refine bodyPost_ret (v := req 0 0 0 0 0) (by simp [results, Tryd.results24, go_sem, s0, s1, s2, s3, s4]) rfl ⟨_, _, _, _, _, rfl, ?_⟩
    exact back5 _ _ _ _ _ (by omega) (by omega) RD.out GR.out hOld.out hRlt
  by_cases h1 : d = 1
  · subst h1
    have HC : ∀ i (hi : i < ([0, 5, 4] : List Int).length), (Wd.alloc (.cells #[.int .i64 0, .int .i64 5, .int .i64 4] 3)).cell? ⟨Wd.heap.size, i, none⟩ = some (.int .i64 (([0, 5, 4] : List Int)[i]'hi)) := by
      intro i hi
      rw [cell_of_row _ _ i _ 3 (0, 0) (heap_alloc_new Wd (.cells #[.int .i64 0, .int .i64 5, .int .i64 4] 3))]
      rcases i with _ | _ | _ | i
      · simp
      · simp
      · simp
      · simp only [List.length] at hi
        omega
    have HC := Lib.hid HC
    have RD := Lib.hid (RD.out.below ((Below.refl Wd.heap.size Wd).alloc (Nat.le_refl _) (.cells #[.int .i64 0, .int .i64 5, .int .i64 4] 3)))
    have GR := Lib.hid (grownBy_trans GR.out (World.grownBy_alloc Wd (.cells #[.int .i64 0, .int .i64 5, .int .i64 4] 3) (some R)))
    have FS := Lib.hid (FS.out.alloc (.cells #[.int .i64 0, .int .i64 5, .int .i64 4] 3))
    have FX := Lib.hid (FX.out.alloc (.cells #[.int .i64 0, .int .i64 5, .int .i64 4] 3))
    go_wp2_with (fail)
    refine (oneR Wd.heap.size [0, 5, 4] RD.out (by omega) (by simp) (by simp) (by omega) HC.out).mono ?_
    rintro e Ws ⟨s, rfl, qs, qs0, qs1, hr, hgr⟩
    have RD := Lib.hid hr
    have GR := Lib.hid (grownBy_trans GR.out hgr)
    have FS := Lib.hid (FS.out.grown hgr (by simpa using hsR))
    have FX := Lib.hid (FX.out.grown hgr (by simpa using hxR))
    obtain ⟨x0, x1, x2, x3, x4⟩ := FX.out.cells
    have xf := FX.out.frozen
    clear hr hgr
    obtain ⟨s0, s1, s2, s3, s4⟩ := FS.out.cells
    have sf := FS.out.frozen
    go_wp2
    go_light
    refine bodyPost_ret (v := req s b o x y) (by simp [results, Tryd.results24, go_sem, s0, s1, s2, s3, s4]) rfl ⟨_, _, _, _, _, rfl, ?_⟩
    exact back5 _ _ _ _ _ (by omega) (by omega) (RD.out.set w.heap.size Wa.heap.size 0 (.int .i64 s) hOld.out hRlt (by omega)) (grown_new GR.out (grownBy_set Ws Wa.heap.size 0 (.int .i64 s)) (by omega)) hOld.out hRlt
  by_cases h2 : d = 2
  · subst h2
    have HC : ∀ i (hi : i < ([0, 31, 30] : List Int).length), (Wd.alloc (.cells #[.int .i64 0, .int .i64 31, .int .i64 30] 3)).cell? ⟨Wd.heap.size, i, none⟩ = some (.int .i64 (([0, 31, 30] : List Int)[i]'hi)) := by
      intro i hi
      rw [cell_of_row _ _ i _ 3 (0, 0) (heap_alloc_new Wd (.cells #[.int .i64 0, .int .i64 31, .int .i64 30] 3))]
      rcases i with _ | _ | _ | i
      · simp
      · simp
      · simp
      · simp only [List.length] at hi
        omega
    have HC := Lib.hid HC
    have RD := Lib.hid (RD.out.below ((Below.refl Wd.heap.size Wd).alloc (Nat.le_refl _) (.cells #[.int .i64 0, .int .i64 31, .int .i64 30] 3)))
    have GR := Lib.hid (grownBy_trans GR.out (World.grownBy_alloc Wd (.cells #[.int .i64 0, .int .i64 31, .int .i64 30] 3) (some R)))
    have FS := Lib.hid (FS.out.alloc (.cells #[.int .i64 0, .int .i64 31, .int .i64 30] 3))
    have FX := Lib.hid (FX.out.alloc (.cells #[.int .i64 0, .int .i64 31, .int .i64 30] 3))
    go_wp2_with (fail)
    refine (oneR Wd.heap.size [0, 31, 30] RD.out (by omega) (by simp) (by simp) (by omega) HC.out).mono ?_
    rintro e Ws ⟨s, rfl, qs, qs0, qs1, hr, hgr⟩
    have RD := Lib.hid hr
    have GR := Lib.hid (grownBy_trans GR.out hgr)
    have FS := Lib.hid (FS.out.grown hgr (by simpa using hsR))
    have FX := Lib.hid (FX.out.grown hgr (by simpa using hxR))
    obtain ⟨x0, x1, x2, x3, x4⟩ := FX.out.cells
    have xf := FX.out.frozen
    clear hr hgr
    obtain ⟨s0, s1, s2, s3, s4⟩ := FS.out.cells
    have sf := FS.out.frozen
    go_wp2
    go_light
    refine bodyPost_ret (v := req a s o x y) (by simp [results, Tryd.results24, go_sem, s0, s1, s2, s3, s4]) rfl ⟨_, _, _, _, _, rfl, ?_⟩
    exact back5 _ _ _ _ _ (by omega) (by omega) (RD.out.set w.heap.size Wa.heap.size 1 (.int .i64 s) hOld.out hRlt (by omega)) (grown_new GR.out (grownBy_set Ws Wa.heap.size 1 (.int .i64 s)) (by omega)) hOld.out hRlt
  by_cases h3 : d = 3
  · subst h3
    have HC : ∀ i (hi : i < ([0, 6] : List Int).length), (Wd.alloc (.cells #[.int .i64 0, .int .i64 6] 3)).cell? ⟨Wd.heap.size, i, none⟩ = some (.int .i64 (([0, 6] : List Int)[i]'hi)) := by
      intro i hi
      rw [cell_of_row _ _ i _ 3 (0, 0) (heap_alloc_new Wd (.cells #[.int .i64 0, .int .i64 6] 3))]
      rcases i with _ | _ | i
      · simp
      · simp
      · simp only [List.length] at hi
        omega
    have HC := Lib.hid HC
    have RD := Lib.hid (RD.out.below ((Below.refl Wd.heap.size Wd).alloc (Nat.le_refl _) (.cells #[.int .i64 0, .int .i64 6] 3)))
    have GR := Lib.hid (grownBy_trans GR.out (World.grownBy_alloc Wd (.cells #[.int .i64 0, .int .i64 6] 3) (some R)))
    have FS := Lib.hid (FS.out.alloc (.cells #[.int .i64 0, .int .i64 6] 3))
    have FX := Lib.hid (FX.out.alloc (.cells #[.int .i64 0, .int .i64 6] 3))
    go_wp2_with (fail)
    refine (oneR Wd.heap.size [0, 6] RD.out (by omega) (by simp) (by simp) (by omega) HC.out).mono ?_
    rintro e Ws ⟨s, rfl, qs, qs0, qs1, hr, hgr⟩
    have RD := Lib.hid hr
    have GR := Lib.hid (grownBy_trans GR.out hgr)
    have FS := Lib.hid (FS.out.grown hgr (by simpa using hsR))
    have FX := Lib.hid (FX.out.grown hgr (by simpa using hxR))
    obtain ⟨x0, x1, x2, x3, x4⟩ := FX.out.cells
    have xf := FX.out.frozen
    clear hr hgr
    obtain ⟨s0, s1, s2, s3, s4⟩ := FS.out.cells
    have sf := FS.out.frozen
    go_wp2
    go_light
    refine bodyPost_ret (v := req a b s x y) (by simp [results, Tryd.results24, go_sem, s0, s1, s2, s3, s4]) rfl ⟨_, _, _, _, _, rfl, ?_⟩
    exact back5 _ _ _ _ _ (by omega) (by omega) (RD.out.set w.heap.size Wa.heap.size 2 (.int .i64 s) hOld.out hRlt (by omega)) (grown_new GR.out (grownBy_set Ws Wa.heap.size 2 (.int .i64 s)) (by omega)) hOld.out hRlt
  by_cases h4 : d = 4
  · subst h4
    have HC : ∀ i (hi : i < ([-2, 2, 5] : List Int).length), (Wd.alloc (.cells #[.int .i64 (-2), .int .i64 2, .int .i64 5] 3)).cell? ⟨Wd.heap.size, i, none⟩ = some (.int .i64 (([-2, 2, 5] : List Int)[i]'hi)) := by
      intro i hi
      rw [cell_of_row _ _ i _ 3 (0, 0) (heap_alloc_new Wd (.cells #[.int .i64 (-2), .int .i64 2, .int .i64 5] 3))]
      rcases i with _ | _ | _ | i
      · simp
      · simp
      · simp
      · simp only [List.length] at hi
        omega
    have HC := Lib.hid HC
    have RD := Lib.hid (RD.out.below ((Below.refl Wd.heap.size Wd).alloc (Nat.le_refl _) (.cells #[.int .i64 (-2), .int .i64 2, .int .i64 5] 3)))
    have GR := Lib.hid (grownBy_trans GR.out (World.grownBy_alloc Wd (.cells #[.int .i64 (-2), .int .i64 2, .int .i64 5] 3) (some R)))
    have FS := Lib.hid (FS.out.alloc (.cells #[.int .i64 (-2), .int .i64 2, .int .i64 5] 3))
    have FX := Lib.hid (FX.out.alloc (.cells #[.int .i64 (-2), .int .i64 2, .int .i64 5] 3))
    go_wp2_with (fail)
    refine (oneR Wd.heap.size [-2, 2, 5] RD.out (by omega) (by simp) (by simp) (by omega) HC.out).mono ?_
    rintro e Ws ⟨s, rfl, qs, qs0, qs1, hr, hgr⟩
    have RD := Lib.hid hr
    have GR := Lib.hid (grownBy_trans GR.out hgr)
    have FS := Lib.hid (FS.out.grown hgr (by simpa using hsR))
    have FX := Lib.hid (FX.out.grown hgr (by simpa using hxR))
    obtain ⟨x0, x1, x2, x3, x4⟩ := FX.out.cells
    have xf := FX.out.frozen
    clear hr hgr
    obtain ⟨s0, s1, s2, s3, s4⟩ := FS.out.cells
    have sf := FS.out.frozen
    go_wp2
    go_light
    refine bodyPost_ret (v := req a b o s y) (by simp [results, Tryd.results24, go_sem, s0, s1, s2, s3, s4]) rfl ⟨_, _, _, _, _, rfl, ?_⟩
    exact back5 _ _ _ _ _ (by omega) (by omega) (RD.out.set w.heap.size Wa.heap.size 3 (.int .i64 s) hOld.out hRlt (by omega)) (grown_new GR.out (grownBy_set Ws Wa.heap.size 3 (.int .i64 s)) (by omega)) hOld.out hRlt
  have e0 : (d == 0) = false := by simp; omega
  have e1 : (d == 1) = false := by simp; omega
  have e2 : (d == 2) = false := by simp; omega
  have e3 : (d == 3) = false := by simp; omega
  have e4 : (d == 4) = false := by simp; omega
  obtain ⟨x0, x1, x2, x3, x4⟩ := FX.out.cells
  have xf := FX.out.frozen
  obtain ⟨s0, s1, s2, s3, s4⟩ := FS.out.cells
  have sf := FS.out.frozen
  go_wp2
  go_light
  refine bodyPost_ret (v := req a b o x y) (by simp [results, Tryd.results24, go_sem, s0, s1, s2, s3, s4]) rfl ⟨_, _, _, _, _, rfl, ?_⟩
  exact back5 _ _ _ _ _ (by omega) (by omega) RD.out GR.out hOld.out hRlt
end Go.Proofs.YtolepfbhhmganaaDoor
