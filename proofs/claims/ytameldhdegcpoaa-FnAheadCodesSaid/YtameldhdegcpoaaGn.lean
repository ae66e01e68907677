import Derived.Test.YtameldhdegcpoaaGm
namespace Go.Proofs.Ytameldhdegcpoaa
open Go.ChangeShapes Go.WideShapes Go.ChangeAt Go.RowKit
set_option linter.unusedVariables false
set_option linter.unusedSimpArgs false
set_option maxRecDepth 100000 in
set_option maxHeartbeats 4000000 in
theorem l2HitNone (g : Nat) (a : Nat) (B : Option Addr) (b : Nat) (C : Option Addr) (d : Nat) (E : List Fig) (F L : List Int) (k : Nat) (n : Int) (w : World) (hn : n < 0) (hg : GmR w (some ⟨g, 0, none⟩) a B b C d E F L) :
 Calls Try.prog 106 #[gameV (some ⟨g, 0, none⟩) E.length a B F.length b C L.length d, .int .i64 (k : Int), .int .i64 n] w fun e w' => e = .returned (.tuple #[gameV (some ⟨g, 0, none⟩) E.length a B F.length b C L.length d, .int .i64 8]) ∧ Below w.heap.size w w' := by
 have BW : Hid (Below w.heap.size w ((w.alloc (.cells #[.slice (some ⟨g, 0, none⟩) E.length a, .slice B F.length b, .slice C L.length d] 29)).alloc (.cells #[.slice none 0 0, .slice none 0 0, .slice none 0 0] 29))) := below_alloc2 w _ _
 have HSW : Hid (((w.alloc (.cells #[.slice (some ⟨g, 0, none⟩) E.length a, .slice B F.length b, .slice C L.length d] 29)).alloc (.cells #[.slice none 0 0, .slice none 0 0, .slice none 0 0] 29)).heap.size = w.heap.size + 2) := by show _ = _; simp
 have K0 : Hid (Three ((w.alloc (.cells #[.slice (some ⟨g, 0, none⟩) E.length a, .slice B F.length b, .slice C L.length d] 29)).alloc (.cells #[.slice none 0 0, .slice none 0 0, .slice none 0 0] 29)) w.heap.size 29 (.slice (some ⟨g, 0, none⟩) E.length a) (.slice B F.length b) (.slice C L.length d)) := (Three.new w).alloc _
 have K1 : Hid (Three ((w.alloc (.cells #[.slice (some ⟨g, 0, none⟩) E.length a, .slice B F.length b, .slice C L.length d] 29)).alloc (.cells #[.slice none 0 0, .slice none 0 0, .slice none 0 0] 29)) (w.heap.size + 1) 29 (.slice none 0 0) (.slice none 0 0) (.slice none 0 0)) := by have := Three.new (t := 29) (u0 := .slice none 0 0) (u1 := .slice none 0 0) (u2 := .slice none 0 0) (w.alloc (.cells #[.slice (some ⟨g, 0, none⟩) E.length a, .slice B F.length b, .slice C L.length d] 29)); simpa [Hid] using this
 have HG := Lib.hid (hg.below BW.out)
 have HG0 := Lib.hid hg
 have e0 : decide (n < 0) = true := by simpa using hn
 obtain ⟨x0, _, _⟩ := K0.out.cells
 clear hg
 unfold gameV
 go_enter Try.func106, Try.ntmps106
 go_wp2_with (fail)
 refine wp_region_held_drew (S := fun w1 => Below ((w.alloc (.cells #[.slice (some ⟨g, 0, none⟩) E.length a, .slice B F.length b, .slice C L.length d] 29)).alloc (.cells #[.slice none 0 0, .slice none 0 0, .slice none 0 0] 29)).heap.size ((w.alloc (.cells #[.slice (some ⟨g, 0, none⟩) E.length a, .slice B F.length b, .slice C L.length d] 29)).alloc (.cells #[.slice none 0 0, .slice none 0 0, .slice none 0 0] 29)) w1) (by kernel_rfl) ((Below.refl _ _).drew) (fun hq => ?_)
 refine tkI 0 8 (v := ?_) rfl rfl ?_ ?_
 rotate_left
 · intro w1 hSw; obtain ⟨hcS, hfS⟩ := bcell hSw; go_simp; (try with_reducible rfl)
 (try simp only [Act.put, pu1, pu2, pu3])
 refine tkI 1 9 (v := ?_) rfl rfl ?_ ?_
 rotate_left
 · intro w1 hSw; obtain ⟨hcS, hfS⟩ := bcell hSw; go_simp; (try with_reducible rfl)
 (try simp only [Act.put, pu1, pu2, pu3])
 refine tkI 2 10 (v := ?_) rfl rfl ?_ ?_
 rotate_left
 · intro w1 hSw; obtain ⟨hcS, hfS⟩ := bcell hSw; go_simp; (try with_reducible rfl)
 (try simp only [Act.put, pu1, pu2, pu3])
 refine tkD 3 11 (v := undef) rfl rfl (Or.inr ⟨by rfl, rfl⟩) (by assumption) ?_
 (try simp only [Act.put, pu1, pu2, pu3])
 refine tkD 4 12 (v := undef) rfl rfl (Or.inr ⟨by rfl, rfl⟩) (by assumption) ?_
 (try simp only [Act.put, pu1, pu2, pu3])
 refine tkD 5 13 (v := undef) rfl rfl (Or.inr ⟨by rfl, rfl⟩) (by assumption) ?_
 (try simp only [Act.put, pu1, pu2, pu3])
 refine tkI 6 14 (v := ?_) rfl rfl ?_ ?_
 rotate_left
 · intro w1 hSw; obtain ⟨hcS, hfS⟩ := bcell hSw; go_simp; (try with_reducible rfl)
 (try simp only [Act.put, pu1, pu2, pu3])
 refine tkI 7 15 (v := ?_) rfl rfl ?_ ?_
 rotate_left
 · intro w1 hSw; obtain ⟨hcS, hfS⟩ := bcell hSw; go_simp; (try with_reducible rfl)
 (try simp only [Act.put, pu1, pu2, pu3])
 refine tkD 8 16 (v := undef) rfl rfl (Or.inr ⟨by rfl, rfl⟩) (by assumption) ?_
 (try simp only [Act.put, pu1, pu2, pu3])
 refine tkD 9 17 (v := undef) rfl rfl (Or.inr ⟨by rfl, rfl⟩) (by assumption) ?_
 (try simp only [Act.put, pu1, pu2, pu3])
 refine tkD 10 18 (v := undef) rfl rfl (Or.inr ⟨by rfl, rfl⟩) (by assumption) ?_
 (try simp only [Act.put, pu1, pu2, pu3])
 refine tkD 11 19 (v := undef) rfl rfl (Or.inr ⟨by rfl, rfl⟩) (by assumption) ?_
 (try simp only [Act.put, pu1, pu2, pu3])
 refine tkD 12 20 (v := undef) rfl rfl (Or.inr ⟨by rfl, rfl⟩) (by assumption) ?_
 (try simp only [Act.put, pu1, pu2, pu3])
 refine tkD 13 21 (v := undef) rfl rfl (Or.inr ⟨by rfl, rfl⟩) (by assumption) ?_
 (try simp only [Act.put, pu1, pu2, pu3])
 refine tkD 14 22 (v := undef) rfl rfl (Or.inr ⟨by rfl, rfl⟩) (by assumption) ?_
 (try simp only [Act.put, pu1, pu2, pu3])
 refine tkD 15 23 (v := undef) rfl rfl (Or.inr ⟨by rfl, rfl⟩) (by assumption) ?_
 (try simp only [Act.put, pu1, pu2, pu3])
 refine tkD 16 24 (v := undef) rfl rfl (Or.inr ⟨by rfl, rfl⟩) (by assumption) ?_
 (try simp only [Act.put, pu1, pu2, pu3])
 refine tkD 17 25 (v := undef) rfl rfl (Or.inr ⟨by rfl, rfl⟩) (by assumption) ?_
 (try simp only [Act.put, pu1, pu2, pu3])
 refine tkD 18 26 (v := undef) rfl rfl (Or.inr ⟨by rfl, rfl⟩) (by assumption) ?_
 (try simp only [Act.put, pu1, pu2, pu3])
 refine tkD 19 27 (v := undef) rfl rfl (Or.inr ⟨by rfl, rfl⟩) (by assumption) ?_
 (try simp only [Act.put, pu1, pu2, pu3])
 refine tkI 20 28 (v := ?_) rfl rfl ?_ ?_
 rotate_left
 · intro w1 hSw; obtain ⟨hcS, hfS⟩ := bcell hSw; go_simp; (try with_reducible rfl)
 (try simp only [Act.put, pu1, pu2, pu3])
 refine wpAnyH_done (by kernel_rfl) ?_ _
 have BF := Lib.hid (Below.and BW.out hq)
 have K0 := Lib.hid (K0.out.below hq (by first | (simp; done) | (simp; omega) | omega))
 have K1 := Lib.hid (K1.out.below hq (by first | (simp; done) | (simp; omega) | omega))
 clear x0 HG BW
 obtain ⟨y0, y1, y2⟩ := K0.out.cells
 obtain ⟨z0, z1, z2⟩ := K1.out.cells
 have zf := K1.out.frozen
 have lk := K1.out.lt
 go_wp2
 refine bodyPost_ret (v := .tuple #[.agg #[.slice (some ⟨g, 0, none⟩) E.length a, .slice B F.length b, .slice C L.length d], .int .i64 8]) (by simp [results, Try.results106, go_sem, y0, y1, y2, z0, z1, z2]) rfl ⟨rfl, ?_⟩
 have BFF : ∀ p0 p1 p2 : Value, Below w.heap.size w ((((((w.alloc (.cells #[.slice (some ⟨g, 0, none⟩) E.length a, .slice B F.length b, .slice C L.length d] 29)).alloc (.cells #[.slice none 0 0, .slice none 0 0, .slice none 0 0] 29)).drew).setCell ⟨w.heap.size + 1, 0, none⟩ p0).setCell ⟨w.heap.size + 1, 1, none⟩ p1).setCell ⟨w.heap.size + 1, 2, none⟩ p2) := fun p0 p1 p2 => by
  iterate 3 (refine Below.setCell ?_ (by first | (simp; done) | (simp; omega)) _)
  exact BF.out
 first | exact BFF _ _ _ | exact (below_alloc2 w _ _).drew
set_option maxRecDepth 100000 in
set_option maxHeartbeats 4000000 in
theorem l2HitSelf (g : Nat) (a : Nat) (B : Option Addr) (b : Nat) (C : Option Addr) (d : Nat) (E : List Fig) (F L : List Int) (k : Nat) (n : Int) (w : World) (hn : ¬ n < 0) (hk : n = (k : Int)) (hg : GmR w (some ⟨g, 0, none⟩) a B b C d E F L) :
 Calls Try.prog 106 #[gameV (some ⟨g, 0, none⟩) E.length a B F.length b C L.length d, .int .i64 (k : Int), .int .i64 n] w fun e w' => e = .returned (.tuple #[gameV (some ⟨g, 0, none⟩) E.length a B F.length b C L.length d, .int .i64 8]) ∧ Below w.heap.size w w' := by
 have BW : Hid (Below w.heap.size w ((w.alloc (.cells #[.slice (some ⟨g, 0, none⟩) E.length a, .slice B F.length b, .slice C L.length d] 29)).alloc (.cells #[.slice none 0 0, .slice none 0 0, .slice none 0 0] 29))) := below_alloc2 w _ _
 have HSW : Hid (((w.alloc (.cells #[.slice (some ⟨g, 0, none⟩) E.length a, .slice B F.length b, .slice C L.length d] 29)).alloc (.cells #[.slice none 0 0, .slice none 0 0, .slice none 0 0] 29)).heap.size = w.heap.size + 2) := by show _ = _; simp
 have K0 : Hid (Three ((w.alloc (.cells #[.slice (some ⟨g, 0, none⟩) E.length a, .slice B F.length b, .slice C L.length d] 29)).alloc (.cells #[.slice none 0 0, .slice none 0 0, .slice none 0 0] 29)) w.heap.size 29 (.slice (some ⟨g, 0, none⟩) E.length a) (.slice B F.length b) (.slice C L.length d)) := (Three.new w).alloc _
 have K1 : Hid (Three ((w.alloc (.cells #[.slice (some ⟨g, 0, none⟩) E.length a, .slice B F.length b, .slice C L.length d] 29)).alloc (.cells #[.slice none 0 0, .slice none 0 0, .slice none 0 0] 29)) (w.heap.size + 1) 29 (.slice none 0 0) (.slice none 0 0) (.slice none 0 0)) := by have := Three.new (t := 29) (u0 := .slice none 0 0) (u1 := .slice none 0 0) (u2 := .slice none 0 0) (w.alloc (.cells #[.slice (some ⟨g, 0, none⟩) E.length a, .slice B F.length b, .slice C L.length d] 29)); simpa [Hid] using this
 have HG := Lib.hid (hg.below BW.out)
 have HG0 := Lib.hid hg
 have e0 : decide (n < 0) = false := by simpa using hn
 have e1 : (n == (k : Int)) = true := by simp [hk]
 clear hk
 obtain ⟨x0, _, _⟩ := K0.out.cells
 clear hg
 unfold gameV
 go_enter Try.func106, Try.ntmps106
 go_wp2_with (fail)
 refine wp_region_held_drew (S := fun w1 => Below ((w.alloc (.cells #[.slice (some ⟨g, 0, none⟩) E.length a, .slice B F.length b, .slice C L.length d] 29)).alloc (.cells #[.slice none 0 0, .slice none 0 0, .slice none 0 0] 29)).heap.size ((w.alloc (.cells #[.slice (some ⟨g, 0, none⟩) E.length a, .slice B F.length b, .slice C L.length d] 29)).alloc (.cells #[.slice none 0 0, .slice none 0 0, .slice none 0 0] 29)) w1) (by kernel_rfl) ((Below.refl _ _).drew) (fun hq => ?_)
 refine tkI 0 8 (v := ?_) rfl rfl ?_ ?_
 rotate_left
 · intro w1 hSw; obtain ⟨hcS, hfS⟩ := bcell hSw; go_simp; (try with_reducible rfl)
 (try simp only [Act.put, pu1, pu2, pu3])
 refine tkI 1 9 (v := ?_) rfl rfl ?_ ?_
 rotate_left
 · intro w1 hSw; obtain ⟨hcS, hfS⟩ := bcell hSw; go_simp; (try with_reducible rfl)
 (try simp only [Act.put, pu1, pu2, pu3])
 refine tkI 2 10 (v := ?_) rfl rfl ?_ ?_
 rotate_left
 · intro w1 hSw; obtain ⟨hcS, hfS⟩ := bcell hSw; go_simp; (try with_reducible rfl)
 (try simp only [Act.put, pu1, pu2, pu3])
 refine tkI 3 11 (v := ?_) rfl rfl ?_ ?_
 rotate_left
 · intro w1 hSw; obtain ⟨hcS, hfS⟩ := bcell hSw; go_simp; (try with_reducible rfl)
 (try simp only [Act.put, pu1, pu2, pu3])
 refine tkI 4 12 (v := ?_) rfl rfl ?_ ?_
 rotate_left
 · intro w1 hSw; obtain ⟨hcS, hfS⟩ := bcell hSw; go_simp; (try with_reducible rfl)
 (try simp only [Act.put, pu1, pu2, pu3])
 refine tkI 5 13 (v := ?_) rfl rfl ?_ ?_
 rotate_left
 · intro w1 hSw; obtain ⟨hcS, hfS⟩ := bcell hSw; go_simp; (try with_reducible rfl)
 (try simp only [Act.put, pu1, pu2, pu3])
 refine tkI 6 14 (v := ?_) rfl rfl ?_ ?_
 rotate_left
 · intro w1 hSw; obtain ⟨hcS, hfS⟩ := bcell hSw; go_simp; (try with_reducible rfl)
 (try simp only [Act.put, pu1, pu2, pu3])
 refine tkI 7 15 (v := ?_) rfl rfl ?_ ?_
 rotate_left
 · intro w1 hSw; obtain ⟨hcS, hfS⟩ := bcell hSw; go_simp; (try with_reducible rfl)
 (try simp only [Act.put, pu1, pu2, pu3])
 refine tkD 8 16 (v := undef) rfl rfl (Or.inr ⟨by rfl, rfl⟩) (by assumption) ?_
 (try simp only [Act.put, pu1, pu2, pu3])
 refine tkD 9 17 (v := undef) rfl rfl (Or.inr ⟨by rfl, rfl⟩) (by assumption) ?_
 (try simp only [Act.put, pu1, pu2, pu3])
 refine tkD 10 18 (v := undef) rfl rfl (Or.inr ⟨by rfl, rfl⟩) (by assumption) ?_
 (try simp only [Act.put, pu1, pu2, pu3])
 refine tkD 11 19 (v := undef) rfl rfl (Or.inr ⟨by rfl, rfl⟩) (by assumption) ?_
 (try simp only [Act.put, pu1, pu2, pu3])
 refine tkD 12 20 (v := undef) rfl rfl (Or.inr ⟨by rfl, rfl⟩) (by assumption) ?_
 (try simp only [Act.put, pu1, pu2, pu3])
 refine tkD 13 21 (v := undef) rfl rfl (Or.inr ⟨by rfl, rfl⟩) (by assumption) ?_
 (try simp only [Act.put, pu1, pu2, pu3])
 refine tkD 14 22 (v := undef) rfl rfl (Or.inr ⟨by rfl, rfl⟩) (by assumption) ?_
 (try simp only [Act.put, pu1, pu2, pu3])
 refine tkD 15 23 (v := undef) rfl rfl (Or.inr ⟨by rfl, rfl⟩) (by assumption) ?_
 (try simp only [Act.put, pu1, pu2, pu3])
 refine tkD 16 24 (v := undef) rfl rfl (Or.inr ⟨by rfl, rfl⟩) (by assumption) ?_
 (try simp only [Act.put, pu1, pu2, pu3])
 refine tkD 17 25 (v := undef) rfl rfl (Or.inr ⟨by rfl, rfl⟩) (by assumption) ?_
 (try simp only [Act.put, pu1, pu2, pu3])
 refine tkD 18 26 (v := undef) rfl rfl (Or.inr ⟨by rfl, rfl⟩) (by assumption) ?_
 (try simp only [Act.put, pu1, pu2, pu3])
 refine tkD 19 27 (v := undef) rfl rfl (Or.inr ⟨by rfl, rfl⟩) (by assumption) ?_
 (try simp only [Act.put, pu1, pu2, pu3])
 refine tkI 20 28 (v := ?_) rfl rfl ?_ ?_
 rotate_left
 · intro w1 hSw; obtain ⟨hcS, hfS⟩ := bcell hSw; go_simp; (try with_reducible rfl)
 (try simp only [Act.put, pu1, pu2, pu3])
 refine wpAnyH_done (by kernel_rfl) ?_ _
 have BF := Lib.hid (Below.and BW.out hq)
 have K0 := Lib.hid (K0.out.below hq (by first | (simp; done) | (simp; omega) | omega))
 have K1 := Lib.hid (K1.out.below hq (by first | (simp; done) | (simp; omega) | omega))
 clear x0 HG BW
 obtain ⟨y0, y1, y2⟩ := K0.out.cells
 obtain ⟨z0, z1, z2⟩ := K1.out.cells
 have zf := K1.out.frozen
 have lk := K1.out.lt
 go_wp2
 refine bodyPost_ret (v := .tuple #[.agg #[.slice (some ⟨g, 0, none⟩) E.length a, .slice B F.length b, .slice C L.length d], .int .i64 8]) (by simp [results, Try.results106, go_sem, y0, y1, y2, z0, z1, z2]) rfl ⟨rfl, ?_⟩
 have BFF : ∀ p0 p1 p2 : Value, Below w.heap.size w ((((((w.alloc (.cells #[.slice (some ⟨g, 0, none⟩) E.length a, .slice B F.length b, .slice C L.length d] 29)).alloc (.cells #[.slice none 0 0, .slice none 0 0, .slice none 0 0] 29)).drew).setCell ⟨w.heap.size + 1, 0, none⟩ p0).setCell ⟨w.heap.size + 1, 1, none⟩ p1).setCell ⟨w.heap.size + 1, 2, none⟩ p2) := fun p0 p1 p2 => by
  iterate 3 (refine Below.setCell ?_ (by first | (simp; done) | (simp; omega)) _)
  exact BF.out
 first | exact BFF _ _ _ | exact (below_alloc2 w _ _).drew
set_option maxRecDepth 100000 in
set_option maxHeartbeats 4000000 in
theorem l2HitFar (g : Nat) (a : Nat) (B : Option Addr) (b : Nat) (C : Option Addr) (d : Nat) (E : List Fig) (F L : List Int) (k : Nat) (n : Nat) (w : World) (hk : k < E.length) (hn : n < E.length) (hne : n ≠ k) (kc kx k_y kl kg nc nx ny nl ng : Int) (hfk : E[k]'hk = ⟨kc, kx, k_y, kl, kg⟩) (hfn : E[n]'hn = ⟨nc, nx, ny, nl, ng⟩) (b1 : 0 ≤ kx ∧ kx ≤ 3) (b2 : 0 ≤ k_y ∧ k_y ≤ 3) (b3 : 0 ≤ nx ∧ nx ≤ 3) (b4 : 0 ≤ ny ∧ ny ≤ 3) (hnr : nearB ⟨kc, kx, k_y, kl, kg⟩ ⟨nc, nx, ny, nl, ng⟩ = false) (hg : GmR w (some ⟨g, 0, none⟩) a B b C d E F L) :
 Calls Try.prog 106 #[gameV (some ⟨g, 0, none⟩) E.length a B F.length b C L.length d, .int .i64 (k : Int), .int .i64 (n : Int)] w fun e w' => e = .returned (.tuple #[gameV (some ⟨g, 0, none⟩) E.length a B F.length b C L.length d, .int .i64 8]) ∧ Below w.heap.size w w' := by
 have BW : Hid (Below w.heap.size w ((w.alloc (.cells #[.slice (some ⟨g, 0, none⟩) E.length a, .slice B F.length b, .slice C L.length d] 29)).alloc (.cells #[.slice none 0 0, .slice none 0 0, .slice none 0 0] 29))) := below_alloc2 w _ _
 have HSW : Hid (((w.alloc (.cells #[.slice (some ⟨g, 0, none⟩) E.length a, .slice B F.length b, .slice C L.length d] 29)).alloc (.cells #[.slice none 0 0, .slice none 0 0, .slice none 0 0] 29)).heap.size = w.heap.size + 2) := by show _ = _; simp
 have K0 : Hid (Three ((w.alloc (.cells #[.slice (some ⟨g, 0, none⟩) E.length a, .slice B F.length b, .slice C L.length d] 29)).alloc (.cells #[.slice none 0 0, .slice none 0 0, .slice none 0 0] 29)) w.heap.size 29 (.slice (some ⟨g, 0, none⟩) E.length a) (.slice B F.length b) (.slice C L.length d)) := (Three.new w).alloc _
 have K1 : Hid (Three ((w.alloc (.cells #[.slice (some ⟨g, 0, none⟩) E.length a, .slice B F.length b, .slice C L.length d] 29)).alloc (.cells #[.slice none 0 0, .slice none 0 0, .slice none 0 0] 29)) (w.heap.size + 1) 29 (.slice none 0 0) (.slice none 0 0) (.slice none 0 0)) := by have := Three.new (t := 29) (u0 := .slice none 0 0) (u1 := .slice none 0 0) (u2 := .slice none 0 0) (w.alloc (.cells #[.slice (some ⟨g, 0, none⟩) E.length a, .slice B F.length b, .slice C L.length d] 29)); simpa [Hid] using this
 have HG := Lib.hid (hg.below BW.out)
 have HG0 := Lib.hid hg
 have HNR := Lib.hid hnr
 have e1 : ((n : Int) == (k : Int)) = false := by simp; omega
 have e0 : decide ((n : Int) < 0) = false := by simp; try omega
 have i0 : (0 : Int) ≤ (k : Int) := by omega
 have i1 : (k : Int) < (E.length : Int) := by omega
 have i2 : (0 : Int) ≤ (n : Int) := by omega
 have i3 : (n : Int) < (E.length : Int) := by omega
 obtain ⟨g', hg', a0, a1, a2, a3, a4⟩ := HG.out.rE k hk
 cases hg'
 obtain ⟨g', hg', c0, c1, c2, c3, c4⟩ := HG.out.rE n hn
 cases hg'
 rw [hfk] at a0 a1 a2 a3 a4
 rw [hfn] at c0 c1 c2 c3 c4
 simp only at a0 a1 a2 a3 a4 c0 c1 c2 c3 c4
 have gl : g < w.heap.size + 1 + 1 := by have := World.block_lt_of_cell? _ _ a0; simpa using this
 clear hfk hfn hnr
 obtain ⟨x0, _, _⟩ := K0.out.cells
 clear hg
 unfold gameV
 go_enter Try.func106, Try.ntmps106
 go_wp2_with (fail)
 refine wp_region_held_drew (S := fun w1 => Below ((w.alloc (.cells #[.slice (some ⟨g, 0, none⟩) E.length a, .slice B F.length b, .slice C L.length d] 29)).alloc (.cells #[.slice none 0 0, .slice none 0 0, .slice none 0 0] 29)).heap.size ((w.alloc (.cells #[.slice (some ⟨g, 0, none⟩) E.length a, .slice B F.length b, .slice C L.length d] 29)).alloc (.cells #[.slice none 0 0, .slice none 0 0, .slice none 0 0] 29)) w1) (by kernel_rfl) ((Below.refl _ _).drew) (fun hq => ?_)
 refine tkI 0 8 (v := ?_) rfl rfl ?_ ?_
 rotate_left
 · intro w1 hSw; obtain ⟨hcS, hfS⟩ := bcell hSw; go_simp; (try with_reducible rfl)
 (try simp only [Act.put, pu1, pu2, pu3])
 refine tkI 1 9 (v := ?_) rfl rfl ?_ ?_
 rotate_left
 · intro w1 hSw; obtain ⟨hcS, hfS⟩ := bcell hSw; go_simp; (try with_reducible rfl)
 (try simp only [Act.put, pu1, pu2, pu3])
 refine tkI 2 10 (v := ?_) rfl rfl ?_ ?_
 rotate_left
 · intro w1 hSw; obtain ⟨hcS, hfS⟩ := bcell hSw; go_simp; (try with_reducible rfl)
 (try simp only [Act.put, pu1, pu2, pu3])
 refine tkI 3 11 (v := ?_) rfl rfl ?_ ?_
 rotate_left
 · intro w1 hSw; obtain ⟨hcS, hfS⟩ := bcell hSw; go_simp; (try with_reducible rfl)
 (try simp only [Act.put, pu1, pu2, pu3])
 refine tkI 4 12 (v := ?_) rfl rfl ?_ ?_
 rotate_left
 · intro w1 hSw; obtain ⟨hcS, hfS⟩ := bcell hSw; go_simp; (try with_reducible rfl)
 (try simp only [Act.put, pu1, pu2, pu3])
 refine tkI 5 13 (v := ?_) rfl rfl ?_ ?_
 rotate_left
 · intro w1 hSw; obtain ⟨hcS, hfS⟩ := bcell hSw; go_simp; (try with_reducible rfl)
 (try simp only [Act.put, pu1, pu2, pu3])
 refine tkI 6 14 (v := ?_) rfl rfl ?_ ?_
 rotate_left
 · intro w1 hSw; obtain ⟨hcS, hfS⟩ := bcell hSw; go_simp; (try with_reducible rfl)
 (try simp only [Act.put, pu1, pu2, pu3])
 refine tkI 7 15 (v := ?_) rfl rfl ?_ ?_
 rotate_left
 · intro w1 hSw; obtain ⟨hcS, hfS⟩ := bcell hSw; go_simp; (try with_reducible rfl)
 (try simp only [Act.put, pu1, pu2, pu3])
 refine tkI 8 16 (v := ?_) rfl rfl ?_ ?_
 rotate_left
 · intro w1 hSw; obtain ⟨hcS, hfS⟩ := bcell hSw; go_simp; (try with_reducible rfl)
 (try simp only [Act.put, pu1, pu2, pu3])
 refine tkI 9 17 (v := ?_) rfl rfl ?_ ?_
 rotate_left
 · intro w1 hSw; obtain ⟨hcS, hfS⟩ := bcell hSw; go_simp; (try with_reducible rfl)
 (try simp only [Act.put, pu1, pu2, pu3])
 refine tkI 10 18 (v := ?_) rfl rfl ?_ ?_
 rotate_left
 · intro w1 hSw; obtain ⟨hcS, hfS⟩ := bcell hSw; go_simp; (try with_reducible rfl)
 (try simp only [Act.put, pu1, pu2, pu3])
 refine tkI 11 19 (v := ?_) rfl rfl ?_ ?_
 rotate_left
 · intro w1 hSw; obtain ⟨hcS, hfS⟩ := bcell hSw; go_simp; (try with_reducible rfl)
 (try simp only [Act.put, pu1, pu2, pu3])
 refine tkI 12 20 (v := ?_) rfl rfl ?_ ?_
 rotate_left
 · intro w1 hSw; obtain ⟨hcS, hfS⟩ := bcell hSw; go_simp; (try with_reducible rfl)
 (try simp only [Act.put, pu1, pu2, pu3])
 refine tkI 13 21 (v := ?_) rfl rfl ?_ ?_
 rotate_left
 · intro w1 hSw; obtain ⟨hcS, hfS⟩ := bcell hSw; go_simp; (try with_reducible rfl)
 (try simp only [Act.put, pu1, pu2, pu3])
 refine tkI 14 22 (v := ?_) rfl rfl ?_ ?_
 rotate_left
 · intro w1 hSw; obtain ⟨hcS, hfS⟩ := bcell hSw; go_simp; (try with_reducible rfl)
 (try simp only [Act.put, pu1, pu2, pu3])
 refine tkI 15 23 (v := ?_) rfl rfl ?_ ?_
 rotate_left
 · intro w1 hSw; obtain ⟨hcS, hfS⟩ := bcell hSw; go_simp; (try with_reducible rfl)
 (try simp only [Act.put, pu1, pu2, pu3])
 refine tkI 16 24 (v := ?_) rfl rfl ?_ ?_
 rotate_left
 · intro w1 hSw; obtain ⟨hcS, hfS⟩ := bcell hSw; go_simp; (try with_reducible rfl)
 (try simp only [Act.put, pu1, pu2, pu3])
 refine tkI 17 25 (v := ?_) rfl rfl ?_ ?_
 rotate_left
 · intro w1 hSw; obtain ⟨hcS, hfS⟩ := bcell hSw; go_simp; (try with_reducible rfl)
 (try simp only [Act.put, pu1, pu2, pu3])
 refine wpAnyH_ready (rs := [18]) (by kernel_rfl) (by simp) ?_
 refine AllReadyH.cons rfl (fun K hK => ?_) AllReadyH.nil
 go_simp
 refine (l2Near ⟨kc, kx, k_y, kl, kg⟩ ⟨nc, nx, ny, nl, ng⟩ _ b1 b2 b3 b4).mono ?_
 rintro e w1 ⟨rfl, hb⟩
 rw [HNR.out]
 refine hK.out _ _ (Below.and hq hb) (fun hq2 => ?_)
 clear hK K
 (try simp only [Act.put, pu1, pu2, pu3])
 refine tkI 19 27 (v := ?_) rfl rfl ?_ ?_
 rotate_left
 · intro w1 hSw; obtain ⟨hcS, hfS⟩ := bcell hSw; go_simp; (try with_reducible rfl)
 (try simp only [Act.put, pu1, pu2, pu3])
 refine tkI 20 28 (v := ?_) rfl rfl ?_ ?_
 rotate_left
 · intro w1 hSw; obtain ⟨hcS, hfS⟩ := bcell hSw; go_simp; (try with_reducible rfl)
 (try simp only [Act.put, pu1, pu2, pu3])
 refine wpAnyH_done (by kernel_rfl) ?_ _
 have BF := Lib.hid (Below.and BW.out hq2)
 have K0 := Lib.hid (K0.out.below hq2 (by first | (simp; done) | (simp; omega) | omega))
 have K1 := Lib.hid (K1.out.below hq2 (by first | (simp; done) | (simp; omega) | omega))
 clear x0 HG BW
 clear a0 a1 a2 a3 a4 c0 c1 c2 c3 c4
 obtain ⟨y0, y1, y2⟩ := K0.out.cells
 obtain ⟨z0, z1, z2⟩ := K1.out.cells
 have zf := K1.out.frozen
 have lk := K1.out.lt
 go_wp2
 refine bodyPost_ret (v := .tuple #[.agg #[.slice (some ⟨g, 0, none⟩) E.length a, .slice B F.length b, .slice C L.length d], .int .i64 8]) (by simp [results, Try.results106, go_sem, y0, y1, y2, z0, z1, z2]) rfl ⟨rfl, ?_⟩
 have BFF : ∀ p0 p1 p2 : Value, Below w.heap.size w (((w1.setCell ⟨w.heap.size + 1, 0, none⟩ p0).setCell ⟨w.heap.size + 1, 1, none⟩ p1).setCell ⟨w.heap.size + 1, 2, none⟩ p2) := fun p0 p1 p2 => by
  iterate 3 (refine Below.setCell ?_ (by first | (simp; done) | (simp; omega)) _)
  exact BF.out
 first | exact BFF _ _ _ | exact (below_alloc2 w _ _).drew
set_option maxRecDepth 100000 in
set_option maxHeartbeats 8000000 in
theorem l2HitLive (g : Nat) (a : Nat) (B : Option Addr) (b : Nat) (C : Option Addr) (d : Nat) (E : List Fig) (F L : List Int) (k : Nat) (n : Nat) (w : World) (hk : k < E.length) (hn : n < E.length) (hne : n ≠ k) (kc kx k_y kl kg nc nx ny nl ng : Int) (hfk : E[k]'hk = ⟨kc, kx, k_y, kl, kg⟩) (hfn : E[n]'hn = ⟨nc, nx, ny, nl, ng⟩) (b1 : 0 ≤ kx ∧ kx ≤ 3) (b2 : 0 ≤ k_y ∧ k_y ≤ 3) (b3 : 0 ≤ nx ∧ nx ≤ 3) (b4 : 0 ≤ ny ∧ ny ≤ 3) (hnr : nearB ⟨kc, kx, k_y, kl, kg⟩ ⟨nc, nx, ny, nl, ng⟩ = true) (hE : E.length ≤ 4) (b0 : 0 ≤ nl ∧ nl ≤ 3) (hl : ¬ nl - 1 ≤ 0) (hg : GmR w (some ⟨g, 0, none⟩) a B b C d E F L) :
 Calls Try.prog 106 #[gameV (some ⟨g, 0, none⟩) E.length a B F.length b C L.length d, .int .i64 (k : Int), .int .i64 (n : Int)] w fun e w' => ∃ A' a' B' b', e = .returned (.tuple #[gameV A' (E.set n ⟨nc, nx, ny, nl - 1, ng⟩).length a' B' F.length b' C L.length d, .int .i64 0]) ∧
  GmR w' A' a' B' b' C d (E.set n ⟨nc, nx, ny, nl - 1, ng⟩) F L ∧ (∀ x, A' = some ⟨x, 0, none⟩ → w.heap.size ≤ x) ∧ (B' = B ∨ ∀ x, B' = some ⟨x, 0, none⟩ → w.heap.size ≤ x) ∧ Below w.heap.size w w' := by
 obtain ⟨I, hi, hz0, hz1, hz2⟩ := parts_of infoEnt'
 have I1 := Lib.hid hi
 have I2 := Lib.hid hz0
 have I3 := Lib.hid hz1
 have I4 := Lib.hid hz2
 clear hi hz0 hz1 hz2
 have BW : Hid (Below w.heap.size w ((w.alloc (.cells #[.slice (some ⟨g, 0, none⟩) E.length a, .slice B F.length b, .slice C L.length d] 29)).alloc (.cells #[.slice none 0 0, .slice none 0 0, .slice none 0 0] 29))) := below_alloc2 w _ _
 have HSW : Hid (((w.alloc (.cells #[.slice (some ⟨g, 0, none⟩) E.length a, .slice B F.length b, .slice C L.length d] 29)).alloc (.cells #[.slice none 0 0, .slice none 0 0, .slice none 0 0] 29)).heap.size = w.heap.size + 2) := by show _ = _; simp
 have K0 : Hid (Three ((w.alloc (.cells #[.slice (some ⟨g, 0, none⟩) E.length a, .slice B F.length b, .slice C L.length d] 29)).alloc (.cells #[.slice none 0 0, .slice none 0 0, .slice none 0 0] 29)) w.heap.size 29 (.slice (some ⟨g, 0, none⟩) E.length a) (.slice B F.length b) (.slice C L.length d)) := (Three.new w).alloc _
 have K1 : Hid (Three ((w.alloc (.cells #[.slice (some ⟨g, 0, none⟩) E.length a, .slice B F.length b, .slice C L.length d] 29)).alloc (.cells #[.slice none 0 0, .slice none 0 0, .slice none 0 0] 29)) (w.heap.size + 1) 29 (.slice none 0 0) (.slice none 0 0) (.slice none 0 0)) := by have := Three.new (t := 29) (u0 := .slice none 0 0) (u1 := .slice none 0 0) (u2 := .slice none 0 0) (w.alloc (.cells #[.slice (some ⟨g, 0, none⟩) E.length a, .slice B F.length b, .slice C L.length d] 29)); simpa [Hid] using this
 have HG := Lib.hid (hg.below BW.out)
 have HG0 := Lib.hid hg
 have HFN := Lib.hid hfn
 have HNR := Lib.hid hnr
 have e1 : ((n : Int) == (k : Int)) = false := by simp; omega
 have e0 : decide ((n : Int) < 0) = false := by simp; try omega
 have i0 : (0 : Int) ≤ (k : Int) := by omega
 have i1 : (k : Int) < (E.length : Int) := by omega
 have i2 : (0 : Int) ≤ (n : Int) := by omega
 have i3 : (n : Int) < (E.length : Int) := by omega
 obtain ⟨g', hg', a0, a1, a2, a3, a4⟩ := HG.out.rE k hk
 cases hg'
 obtain ⟨g', hg', c0, c1, c2, c3, c4⟩ := HG.out.rE n hn
 cases hg'
 rw [hfk] at a0 a1 a2 a3 a4
 rw [hfn] at c0 c1 c2 c3 c4
 simp only at a0 a1 a2 a3 a4 c0 c1 c2 c3 c4
 have gl : g < w.heap.size + 1 + 1 := by have := World.block_lt_of_cell? _ _ a0; simpa using this
 clear hfk hfn hnr
 obtain ⟨x0, _, _⟩ := K0.out.cells
 have q1 : IntKind.i64.wrap (nl - 1) = nl - 1 := IntWalk.i64_in _ (by omega)
 clear hg
 unfold gameV
 go_enter Try.func106, Try.ntmps106
 go_wp2_with (fail)
 refine wp_region_held_drew (S := fun w1 => Below ((w.alloc (.cells #[.slice (some ⟨g, 0, none⟩) E.length a, .slice B F.length b, .slice C L.length d] 29)).alloc (.cells #[.slice none 0 0, .slice none 0 0, .slice none 0 0] 29)).heap.size ((w.alloc (.cells #[.slice (some ⟨g, 0, none⟩) E.length a, .slice B F.length b, .slice C L.length d] 29)).alloc (.cells #[.slice none 0 0, .slice none 0 0, .slice none 0 0] 29)) w1) (by kernel_rfl) ((Below.refl _ _).drew) (fun hq => ?_)
 refine tkI 0 8 (v := ?_) rfl rfl ?_ ?_
 rotate_left
 · intro w1 hSw; obtain ⟨hcS, hfS⟩ := bcell hSw; go_simp; (try with_reducible rfl)
 (try simp only [Act.put, pu1, pu2, pu3])
 refine tkI 1 9 (v := ?_) rfl rfl ?_ ?_
 rotate_left
 · intro w1 hSw; obtain ⟨hcS, hfS⟩ := bcell hSw; go_simp; (try with_reducible rfl)
 (try simp only [Act.put, pu1, pu2, pu3])
 refine tkI 2 10 (v := ?_) rfl rfl ?_ ?_
 rotate_left
 · intro w1 hSw; obtain ⟨hcS, hfS⟩ := bcell hSw; go_simp; (try with_reducible rfl)
 (try simp only [Act.put, pu1, pu2, pu3])
 refine tkI 3 11 (v := ?_) rfl rfl ?_ ?_
 rotate_left
 · intro w1 hSw; obtain ⟨hcS, hfS⟩ := bcell hSw; go_simp; (try with_reducible rfl)
 (try simp only [Act.put, pu1, pu2, pu3])
 refine tkI 4 12 (v := ?_) rfl rfl ?_ ?_
 rotate_left
 · intro w1 hSw; obtain ⟨hcS, hfS⟩ := bcell hSw; go_simp; (try with_reducible rfl)
 (try simp only [Act.put, pu1, pu2, pu3])
 refine tkI 5 13 (v := ?_) rfl rfl ?_ ?_
 rotate_left
 · intro w1 hSw; obtain ⟨hcS, hfS⟩ := bcell hSw; go_simp; (try with_reducible rfl)
 (try simp only [Act.put, pu1, pu2, pu3])
 refine tkI 6 14 (v := ?_) rfl rfl ?_ ?_
 rotate_left
 · intro w1 hSw; obtain ⟨hcS, hfS⟩ := bcell hSw; go_simp; (try with_reducible rfl)
 (try simp only [Act.put, pu1, pu2, pu3])
 refine tkI 7 15 (v := ?_) rfl rfl ?_ ?_
 rotate_left
 · intro w1 hSw; obtain ⟨hcS, hfS⟩ := bcell hSw; go_simp; (try with_reducible rfl)
 (try simp only [Act.put, pu1, pu2, pu3])
 refine tkI 8 16 (v := ?_) rfl rfl ?_ ?_
 rotate_left
 · intro w1 hSw; obtain ⟨hcS, hfS⟩ := bcell hSw; go_simp; (try with_reducible rfl)
 (try simp only [Act.put, pu1, pu2, pu3])
 refine tkI 9 17 (v := ?_) rfl rfl ?_ ?_
 rotate_left
 · intro w1 hSw; obtain ⟨hcS, hfS⟩ := bcell hSw; go_simp; (try with_reducible rfl)
 (try simp only [Act.put, pu1, pu2, pu3])
 refine tkI 10 18 (v := ?_) rfl rfl ?_ ?_
 rotate_left
 · intro w1 hSw; obtain ⟨hcS, hfS⟩ := bcell hSw; go_simp; (try with_reducible rfl)
 (try simp only [Act.put, pu1, pu2, pu3])
 refine tkI 11 19 (v := ?_) rfl rfl ?_ ?_
 rotate_left
 · intro w1 hSw; obtain ⟨hcS, hfS⟩ := bcell hSw; go_simp; (try with_reducible rfl)
 (try simp only [Act.put, pu1, pu2, pu3])
 refine tkI 12 20 (v := ?_) rfl rfl ?_ ?_
 rotate_left
 · intro w1 hSw; obtain ⟨hcS, hfS⟩ := bcell hSw; go_simp; (try with_reducible rfl)
 (try simp only [Act.put, pu1, pu2, pu3])
 refine tkI 13 21 (v := ?_) rfl rfl ?_ ?_
 rotate_left
 · intro w1 hSw; obtain ⟨hcS, hfS⟩ := bcell hSw; go_simp; (try with_reducible rfl)
 (try simp only [Act.put, pu1, pu2, pu3])
 refine tkI 14 22 (v := ?_) rfl rfl ?_ ?_
 rotate_left
 · intro w1 hSw; obtain ⟨hcS, hfS⟩ := bcell hSw; go_simp; (try with_reducible rfl)
 (try simp only [Act.put, pu1, pu2, pu3])
 refine tkI 15 23 (v := ?_) rfl rfl ?_ ?_
 rotate_left
 · intro w1 hSw; obtain ⟨hcS, hfS⟩ := bcell hSw; go_simp; (try with_reducible rfl)
 (try simp only [Act.put, pu1, pu2, pu3])
 refine tkI 16 24 (v := ?_) rfl rfl ?_ ?_
 rotate_left
 · intro w1 hSw; obtain ⟨hcS, hfS⟩ := bcell hSw; go_simp; (try with_reducible rfl)
 (try simp only [Act.put, pu1, pu2, pu3])
 refine tkI 17 25 (v := ?_) rfl rfl ?_ ?_
 rotate_left
 · intro w1 hSw; obtain ⟨hcS, hfS⟩ := bcell hSw; go_simp; (try with_reducible rfl)
 (try simp only [Act.put, pu1, pu2, pu3])
 refine wpAnyH_ready (rs := [18]) (by kernel_rfl) (by simp) ?_
 refine AllReadyH.cons rfl (fun K hK => ?_) AllReadyH.nil
 go_simp
 refine (l2Near ⟨kc, kx, k_y, kl, kg⟩ ⟨nc, nx, ny, nl, ng⟩ _ b1 b2 b3 b4).mono ?_
 rintro e w1 ⟨rfl, hb⟩
 rw [HNR.out]
 refine hK.out _ _ (Below.and hq hb) (fun hq2 => ?_)
 clear hK K
 (try simp only [Act.put, pu1, pu2, pu3])
 refine tkI 19 27 (v := ?_) rfl rfl ?_ ?_
 rotate_left
 · intro w1 hSw; obtain ⟨hcS, hfS⟩ := bcell hSw; go_simp; (try with_reducible rfl)
 (try simp only [Act.put, pu1, pu2, pu3])
 refine tkI 20 28 (v := ?_) rfl rfl ?_ ?_
 rotate_left
 · intro w1 hSw; obtain ⟨hcS, hfS⟩ := bcell hSw; go_simp; (try with_reducible rfl)
 (try simp only [Act.put, pu1, pu2, pu3])
 refine wpAnyH_done (by kernel_rfl) ?_ _
 have BF := Lib.hid (Below.and BW.out hq2)
 have K0 := Lib.hid (K0.out.below hq2 (by first | (simp; done) | (simp; omega) | omega))
 have K1 := Lib.hid (K1.out.below hq2 (by first | (simp; done) | (simp; omega) | omega))
 have SZ0 := Lib.hid (show w.heap.size + 2 ≤ w1.heap.size by have := (hq2).size; rw [HSW.out] at this; omega)
 clear x0 HG BW a0 a1 a2 a3 a4 c0 c1 c2 c3 c4 e0 e1 hq2 gl HSW
 obtain ⟨x0, _, _⟩ := K0.out.cells
 have l1 : w.heap.size < w1.heap.size := by have := SZ0.out; omega
 have RD1 : Hid (Rd 5 Fig.cells w1 (some ⟨g, 0, none⟩) E) := (HG0.out.below BF.out).rE.rd
 go_wp2_with (at_builtin; go_loud (refine list_app Fig.len rfl _ _ 26 rfl (w.heap.size + 2) 72 I (.agg #[.int .i64 0, .int .i64 0, .int .i64 0, .int .i64 0, .int .i64 0]) 40 Try.underlying26 I1.out I2.out I3.out I4.out rfl (by decide) (.slice (some ⟨w1.heap.size, 0, none⟩) 0 0) 0 [] rfl ?o2s1 _ _ E.length E ?m2s1 rfl ?r2s1 ?n2s1 (figs_one _) ?b2s1 ?c2s1 ?d2s1 ?_))
 try case o2s1 => (exact own_base (own_nil_new w1 72 5 rfl) (by have := SZ0.out; omega))
 try case m2s1 => (rfl)
 try case r2s1 => (first | exact Rd.below RD1.out ((Below.refl _ _).alloc (Nat.le_refl _) _))
 try case r2s1.inl => (first | exact Rd.below RD1.out ((Below.refl _ _).alloc (Nat.le_refl _) _))
 try case r2s1.inr => (first | exact Rd.below RD1.out ((Below.refl _ _).alloc (Nat.le_refl _) _))
 try case n2s1 => (intro e; cases e)
 try case b2s1 => (unfold maxLen; omega)
 try case c2s1 => (omega)
 try case d2s1 => (have := SZ0.out; first | omega | (simp; omega))
 intro v2 w2 ho2 hg2 hp2
 obtain ⟨A1, c1, hv1, _⟩ := own_form ho2
 subst hv1
 have ho1' : w2.ownsRow (w.heap.size + 2) 72 5 (.slice A1 E.length c1) E.length (figs E) := by simpa [figs] using ho2
 obtain ⟨q, rfl, hq1, hq2⟩ := own_some ho1' (by omega)
 have hge : ∀ x, (Value.slice (some ⟨w1.heap.size, 0, none⟩) 0 0).ownBlock = some x → w1.heap.size ≤ x := fun x hx => by simp [Value.ownBlock] at hx; omega
 have BF2 : Hid (Below w.heap.size w w2) := Below.trans (BF.out.alloc BF.out.size (.cells #[] 72)) (Below.of_grown hg2 (by have := SZ0.out; simp; omega) (fun x hx => by have := hge x hx; have := SZ0.out; omega))
 have SZ1 := Lib.hid (show w.heap.size + 2 ≤ w2.heap.size by have := hg2.size; have := SZ0.out; simp at *; omega)
 have T0 := Lib.hid ((K0.out.alloc (.cells #[] 72)).grown hg2 (fun e => by have := hge _ e.symm; have := SZ0.out; omega))
 have T1 := Lib.hid ((K1.out.alloc (.cells #[] 72)).grown hg2 (fun e => by have := hge _ e.symm; have := SZ0.out; omega))
 have OF := Lib.hid ho1'
 clear ho2 hg2 hp2 x0 hge BF RD1 ho1' l1
 obtain ⟨y0, y1, y2⟩ := T0.out.cells
 have yf := T0.out.frozen
 have n1 : ¬ q = w.heap.size := by omega
 have n2 : ¬ w.heap.size = q := by omega
 have l1 : w.heap.size < w2.heap.size := by have := SZ1.out; omega
 go_wp2_with (fail)
 clear y0 y1 y2 yf
 have T0a := Lib.hid (T0.out.set0 (.slice (some ⟨q, 0, none⟩) E.length c1))
 have T1a := Lib.hid (T1.out.far (show w.heap.size + 1 ≠ w.heap.size by omega) (j := 0) (.slice (some ⟨q, 0, none⟩) E.length c1))
 have OFa := Lib.hid (own_put OF.out (b := w.heap.size) (by omega) 0 (.slice (some ⟨q, 0, none⟩) E.length c1))
 have HBa := Lib.hid (BF2.out.setCell (Nat.le_refl w.heap.size) (p := ⟨w.heap.size, 0, none⟩) (.slice (some ⟨q, 0, none⟩) E.length c1))
 have SZa : Hid (w.heap.size + 2 ≤ (w2.setCell ⟨w.heap.size, 0, none⟩ (.slice (some ⟨q, 0, none⟩) E.length c1)).heap.size) := by show _ ≤ _; have := SZ1.out; simp; omega
 obtain ⟨WA, hW⟩ : ∃ X, X = w2.setCell ⟨w.heap.size, 0, none⟩ (.slice (some ⟨q, 0, none⟩) E.length c1) := ⟨_, rfl⟩
 rw [← hW] at T0a T1a OFa HBa SZa ⊢
 clear hW T0 T1 OF K0 K1 BF2 SZ1 l1
 have xq : WA.cell? ⟨q, n * 5 + 3, none⟩ = some (.int .i64 nl) := by
  rw [OFa.out.cellAt (n * 5 + 3) (by omega), figs_at E n 3 hn (by omega), HFN.out]; rfl
 have ff := fun i => OFa.out.frozenAt i
 have c1x : WA.cell? ⟨w.heap.size, 0, none⟩ = some (.slice (some ⟨q, 0, none⟩) E.length c1) := T0a.out.cells.1
 refine wp_region_held_drew (S := (fun W => W.cell? ⟨w.heap.size, 0, none⟩ = some (.slice (some ⟨q, 0, none⟩) E.length c1))) (by kernel_rfl) c1x (fun hS0 => ?_)
 refine tkI 0 35 (v := ?_) rfl rfl ?_ ?_
 rotate_left
 · intro w1 hSw; go_simp; (try with_reducible rfl)
 (try simp only [Act.put, pu1, pu2, pu3])
 refine tkI 1 36 (v := ?_) rfl rfl ?_ ?_
 rotate_left
 · intro w1 hSw; go_simp; (try with_reducible rfl)
 (try simp only [Act.put, pu1, pu2, pu3])
 refine tkI 2 37 (v := ?_) rfl rfl ?_ ?_
 rotate_left
 · intro w1 hSw; go_simp; (try with_reducible rfl)
 (try simp only [Act.put, pu1, pu2, pu3])
 refine tkI 3 38 (v := ?_) rfl rfl ?_ ?_
 rotate_left
 · intro w1 hSw; go_simp; (try with_reducible rfl)
 (try simp only [Act.put, pu1, pu2, pu3])
 refine tkI 4 39 (v := ?_) rfl rfl ?_ ?_
 rotate_left
 · intro w1 hSw; go_simp; (try with_reducible rfl)
 (try simp only [Act.put, pu1, pu2, pu3])
 refine tkI 5 40 (v := ?_) rfl rfl ?_ ?_
 rotate_left
 · intro w1 hSw; go_simp; (try with_reducible rfl)
 (try simp only [Act.put, pu1, pu2, pu3])
 refine tkI 6 41 (v := ?_) rfl rfl ?_ ?_
 rotate_left
 · intro w1 hSw; go_simp; (try with_reducible rfl)
 (try simp only [Act.put, pu1, pu2, pu3])
 refine tkI 7 42 (v := ?_) rfl rfl ?_ ?_
 rotate_left
 · intro w1 hSw; go_simp; (try with_reducible rfl)
 (try simp only [Act.put, pu1, pu2, pu3])
 refine wpAnyH_ready (rs := [8]) (by kernel_rfl) (by simp) ?_
 refine AllReadyH.cons rfl (fun K hK => ?_) AllReadyH.nil
 go_simp
 refine hK.out _ _ hS0 (fun hS1 => ?_)
 clear hK K
 (try simp only [Act.put, pu1, pu2, pu3])
 refine tkI 9 44 (v := ?_) rfl rfl ?_ ?_
 rotate_left
 · intro w1 hSw; go_simp; (try with_reducible rfl)
 (try simp only [Act.put, pu1, pu2, pu3])
 refine tkI 10 45 (v := ?_) rfl rfl ?_ ?_
 rotate_left
 · intro w1 hSw; go_simp; (try with_reducible rfl)
 (try simp only [Act.put, pu1, pu2, pu3])
 refine tkI 11 46 (v := ?_) rfl rfl ?_ ?_
 rotate_left
 · intro w1 hSw; go_simp; (try with_reducible rfl)
 (try simp only [Act.put, pu1, pu2, pu3])
 refine wpAnyH_ready (rs := [12]) (by kernel_rfl) (by simp) ?_
 refine AllReadyH.cons rfl (fun K hK => ?_) AllReadyH.nil
 go_simp
 refine hK.out _ _ (by go_simp) (fun hS2 => ?_)
 clear hK K
 (try simp only [Act.put, pu1, pu2, pu3])
 refine wpAnyH_done (by kernel_rfl) ?_ _
 have T0b := Lib.hid (Three.drew (T0a.out.far n2 (j := n * 5 + 3) (.int .i64 (nl - 1))))
 have T1b := Lib.hid (Three.drew (T1a.out.far (show w.heap.size + 1 ≠ q by omega) (j := n * 5 + 3) (.int .i64 (nl - 1))))
 have OE2 : Hid ((WA.setCell ⟨q, n * 5 + 3, none⟩ (.int .i64 (nl - 1))).drew.ownsRow (w.heap.size + 2) 72 5 (.slice (some ⟨q, 0, none⟩) E.length c1) E.length (figs (E.set n ⟨nc, nx, ny, nl - 1, ng⟩))) := by
  have h := (own_set1 (n * 5 + 3) (.int .i64 (nl - 1)) (by rw [figs_length]; omega) OFa.out).1
  rw [figs_set E n 3 hn (by omega) (.int .i64 (nl - 1)) ⟨nc, nx, ny, nl - 1, ng⟩ (by rw [HFN.out]; rfl)] at h
  exact h
 have HB2 := Lib.hid (HBa.out.setCell (show w.heap.size ≤ q by omega) (p := ⟨q, n * 5 + 3, none⟩) (.int .i64 (nl - 1))).drew
 have SZ2 : Hid (w.heap.size + 2 ≤ (WA.setCell ⟨q, n * 5 + 3, none⟩ (.int .i64 (nl - 1))).drew.heap.size) := by show _ ≤ (WA.setCell ⟨q, n * 5 + 3, none⟩ (.int .i64 (nl - 1))).heap.size; have := SZa.out; simp; omega
 obtain ⟨W2, hW⟩ : ∃ X, X = (WA.setCell ⟨q, n * 5 + 3, none⟩ (.int .i64 (nl - 1))).drew := ⟨_, rfl⟩
 rw [← hW] at T0b T1b OE2 HB2 SZ2 ⊢
 clear hW T0a T1a OFa HBa c1x xq ff hS0 hS1 hS2 SZa
 have xq : W2.cell? ⟨q, n * 5 + 3, none⟩ = some (.int .i64 (nl - 1)) := by
  rw [OE2.out.cellAt (n * 5 + 3) (by omega), figs_at _ n 3 (by simpa using hn) (by omega), List.getElem_set_self]; rfl
 have LE2 : Hid ((E.set n ⟨nc, nx, ny, nl - 1, ng⟩).length = E.length) := List.length_set
 have GM2 : Hid (GmR W2 (some ⟨q, 0, none⟩) c1 B b C d (E.set n ⟨nc, nx, ny, nl - 1, ng⟩) F L) :=
  ⟨RdF.of_own OE2.out, RdI.below HG0.out.rF HB2.out, RdI.below HG0.out.rL HB2.out, (by rw [LE2.out]; exact (own_cap OE2.out).1), HG0.out.cB, HG0.out.cC, .inr ⟨q, rfl⟩, HG0.out.nB, HG0.out.nC, (fun x hx => (own_at OE2.out x hx).2), (fun x hx => Nat.lt_of_lt_of_le (HG0.out.lB x hx) HB2.out.size), (fun x hx => Nat.lt_of_lt_of_le (HG0.out.lC x hx) HB2.out.size)⟩
 obtain ⟨y0, y1, y2⟩ := T0b.out.cells
 have l1 : w.heap.size < W2.heap.size := by have := SZ2.out; omega
 obtain ⟨z0, z1, z2⟩ := T1b.out.cells
 have zf := T1b.out.frozen
 go_wp2
 refine bodyPost_ret (v := .tuple #[.agg #[.slice (some ⟨q, 0, none⟩) E.length c1, .slice B F.length b, .slice C L.length d], .int .i64 0]) (by simp [results, Try.results106, go_sem, y0, y1, y2, z0, z1, z2]) rfl ⟨some ⟨q, 0, none⟩, c1, B, b, by rw [LE2.out], ?_⟩
 have BFF : ∀ p0 p1 p2 : Value, Below W2.heap.size W2 (((W2.setCell ⟨w.heap.size + 1, 0, none⟩ p0).setCell ⟨w.heap.size + 1, 1, none⟩ p1).setCell ⟨w.heap.size + 1, 2, none⟩ p2) → True := fun _ _ _ _ => trivial
 have BG : ∀ p0 p1 p2 : Value, Below w.heap.size w (((W2.setCell ⟨w.heap.size + 1, 0, none⟩ p0).setCell ⟨w.heap.size + 1, 1, none⟩ p1).setCell ⟨w.heap.size + 1, 2, none⟩ p2) := fun p0 p1 p2 => by
  iterate 3 (refine Below.setCell ?_ (by first | (simp; done) | (simp; omega)) _)
  exact HB2.out
 have OG : ∀ p0 p1 p2 : Value, (((W2.setCell ⟨w.heap.size + 1, 0, none⟩ p0).setCell ⟨w.heap.size + 1, 1, none⟩ p1).setCell ⟨w.heap.size + 1, 2, none⟩ p2).ownsRow (w.heap.size + 2) 72 5 (.slice (some ⟨q, 0, none⟩) E.length c1) E.length (figs (E.set n ⟨nc, nx, ny, nl - 1, ng⟩)) := fun p0 p1 p2 => by
  iterate 3 (refine own_put ?_ (by omega) _ _)
  exact OE2.out
 exact ⟨((GM2.out.put (w.heap.size + 1) 0 _ (fun x hx => by have := (own_at OE2.out x hx).1; omega) (fun x hx => by have := HG0.out.lB x hx; omega) (fun x hx => by have := HG0.out.lC x hx; omega)).put (w.heap.size + 1) 1 _ (fun x hx => by have := (own_at OE2.out x hx).1; omega) (fun x hx => by have := HG0.out.lB x hx; omega) (fun x hx => by have := HG0.out.lC x hx; omega)).put (w.heap.size + 1) 2 _ (fun x hx => by have := (own_at OE2.out x hx).1; omega) (fun x hx => by have := HG0.out.lB x hx; omega) (fun x hx => by have := HG0.out.lC x hx; omega), (fun x hx => by have := (own_at OE2.out x hx).1; omega), .inl rfl, BG _ _ _⟩
set_option maxRecDepth 100000 in
set_option maxHeartbeats 8000000 in
theorem l2HitDrop (g : Nat) (a : Nat) (B : Option Addr) (b : Nat) (C : Option Addr) (d : Nat) (E : List Fig) (F L : List Int) (k : Nat) (n : Nat) (w : World) (hk : k < E.length) (hn : n < E.length) (hne : n ≠ k) (kc kx k_y kl kg nc nx ny nl ng : Int) (hfk : E[k]'hk = ⟨kc, kx, k_y, kl, kg⟩) (hfn : E[n]'hn = ⟨nc, nx, ny, nl, ng⟩) (b1 : 0 ≤ kx ∧ kx ≤ 3) (b2 : 0 ≤ k_y ∧ k_y ≤ 3) (b3 : 0 ≤ nx ∧ nx ≤ 3) (b4 : 0 ≤ ny ∧ ny ≤ 3) (hnr : nearB ⟨kc, kx, k_y, kl, kg⟩ ⟨nc, nx, ny, nl, ng⟩ = true) (hE : E.length ≤ 4) (b0 : 0 ≤ nl ∧ nl ≤ 3) (hl : nl - 1 ≤ 0) (j : Nat) (v : Int) (hF : F.length = 16) (hj : ny * 4 + nx = (j : Int)) (hjl : j < F.length) (hv : F[j]'hjl = v) (b5 : 0 ≤ v ∧ v ≤ 20) (b6 : 0 ≤ ng ∧ ng ≤ 20) (hg : GmR w (some ⟨g, 0, none⟩) a B b C d E F L) :
 Calls Try.prog 106 #[gameV (some ⟨g, 0, none⟩) E.length a B F.length b C L.length d, .int .i64 (k : Int), .int .i64 (n : Int)] w fun e w' => ∃ A' a' B' b', e = .returned (.tuple #[gameV A' ((E.set n ⟨nc, nx, ny, nl - 1, ng⟩).take n ++ (E.set n ⟨nc, nx, ny, nl - 1, ng⟩).drop (n + 1)).length a' B' (F.set j (v + ng)).length b' C L.length d, .int .i64 0]) ∧
  GmR w' A' a' B' b' C d ((E.set n ⟨nc, nx, ny, nl - 1, ng⟩).take n ++ (E.set n ⟨nc, nx, ny, nl - 1, ng⟩).drop (n + 1)) (F.set j (v + ng)) L ∧ (∀ x, A' = some ⟨x, 0, none⟩ → w.heap.size ≤ x) ∧ (B' = B ∨ ∀ x, B' = some ⟨x, 0, none⟩ → w.heap.size ≤ x) ∧ Below w.heap.size w w' := by
 obtain ⟨I, hi, hz0, hz1, hz2⟩ := parts_of infoEnt'
 have I1 := Lib.hid hi
 have I2 := Lib.hid hz0
 have I3 := Lib.hid hz1
 have I4 := Lib.hid hz2
 clear hi hz0 hz1 hz2
 have BW : Hid (Below w.heap.size w ((w.alloc (.cells #[.slice (some ⟨g, 0, none⟩) E.length a, .slice B F.length b, .slice C L.length d] 29)).alloc (.cells #[.slice none 0 0, .slice none 0 0, .slice none 0 0] 29))) := below_alloc2 w _ _
 have HSW : Hid (((w.alloc (.cells #[.slice (some ⟨g, 0, none⟩) E.length a, .slice B F.length b, .slice C L.length d] 29)).alloc (.cells #[.slice none 0 0, .slice none 0 0, .slice none 0 0] 29)).heap.size = w.heap.size + 2) := by show _ = _; simp
 have K0 : Hid (Three ((w.alloc (.cells #[.slice (some ⟨g, 0, none⟩) E.length a, .slice B F.length b, .slice C L.length d] 29)).alloc (.cells #[.slice none 0 0, .slice none 0 0, .slice none 0 0] 29)) w.heap.size 29 (.slice (some ⟨g, 0, none⟩) E.length a) (.slice B F.length b) (.slice C L.length d)) := (Three.new w).alloc _
 have K1 : Hid (Three ((w.alloc (.cells #[.slice (some ⟨g, 0, none⟩) E.length a, .slice B F.length b, .slice C L.length d] 29)).alloc (.cells #[.slice none 0 0, .slice none 0 0, .slice none 0 0] 29)) (w.heap.size + 1) 29 (.slice none 0 0) (.slice none 0 0) (.slice none 0 0)) := by have := Three.new (t := 29) (u0 := .slice none 0 0) (u1 := .slice none 0 0) (u2 := .slice none 0 0) (w.alloc (.cells #[.slice (some ⟨g, 0, none⟩) E.length a, .slice B F.length b, .slice C L.length d] 29)); simpa [Hid] using this
 have HG := Lib.hid (hg.below BW.out)
 have HG0 := Lib.hid hg
 have HFN := Lib.hid hfn
 have HNR := Lib.hid hnr
 have e1 : ((n : Int) == (k : Int)) = false := by simp; omega
 have e0 : decide ((n : Int) < 0) = false := by simp; try omega
 have i0 : (0 : Int) ≤ (k : Int) := by omega
 have i1 : (k : Int) < (E.length : Int) := by omega
 have i2 : (0 : Int) ≤ (n : Int) := by omega
 have i3 : (n : Int) < (E.length : Int) := by omega
 obtain ⟨g', hg', a0, a1, a2, a3, a4⟩ := HG.out.rE k hk
 cases hg'
 obtain ⟨g', hg', c0, c1, c2, c3, c4⟩ := HG.out.rE n hn
 cases hg'
 rw [hfk] at a0 a1 a2 a3 a4
 rw [hfn] at c0 c1 c2 c3 c4
 simp only at a0 a1 a2 a3 a4 c0 c1 c2 c3 c4
 have gl : g < w.heap.size + 1 + 1 := by have := World.block_lt_of_cell? _ _ a0; simpa using this
 clear hfk hfn hnr
 obtain ⟨x0, _, _⟩ := K0.out.cells
 have q1 : IntKind.i64.wrap (nl - 1) = nl - 1 := IntWalk.i64_in _ (by omega)
 have HPJ := Lib.hid (show F.length = 16 ∧ ny * 4 + nx = (j : Int) ∧ F[j]'hjl = v from ⟨hF, hj, hv⟩)
 clear hF hj hv
 clear hg
 unfold gameV
 go_enter Try.func106, Try.ntmps106
 go_wp2_with (fail)
 refine wp_region_held_drew (S := fun w1 => Below ((w.alloc (.cells #[.slice (some ⟨g, 0, none⟩) E.length a, .slice B F.length b, .slice C L.length d] 29)).alloc (.cells #[.slice none 0 0, .slice none 0 0, .slice none 0 0] 29)).heap.size ((w.alloc (.cells #[.slice (some ⟨g, 0, none⟩) E.length a, .slice B F.length b, .slice C L.length d] 29)).alloc (.cells #[.slice none 0 0, .slice none 0 0, .slice none 0 0] 29)) w1) (by kernel_rfl) ((Below.refl _ _).drew) (fun hq => ?_)
 refine tkI 0 8 (v := ?_) rfl rfl ?_ ?_
 rotate_left
 · intro w1 hSw; obtain ⟨hcS, hfS⟩ := bcell hSw; go_simp; (try with_reducible rfl)
 (try simp only [Act.put, pu1, pu2, pu3])
 refine tkI 1 9 (v := ?_) rfl rfl ?_ ?_
 rotate_left
 · intro w1 hSw; obtain ⟨hcS, hfS⟩ := bcell hSw; go_simp; (try with_reducible rfl)
 (try simp only [Act.put, pu1, pu2, pu3])
 refine tkI 2 10 (v := ?_) rfl rfl ?_ ?_
 rotate_left
 · intro w1 hSw; obtain ⟨hcS, hfS⟩ := bcell hSw; go_simp; (try with_reducible rfl)
 (try simp only [Act.put, pu1, pu2, pu3])
 refine tkI 3 11 (v := ?_) rfl rfl ?_ ?_
 rotate_left
 · intro w1 hSw; obtain ⟨hcS, hfS⟩ := bcell hSw; go_simp; (try with_reducible rfl)
 (try simp only [Act.put, pu1, pu2, pu3])
 refine tkI 4 12 (v := ?_) rfl rfl ?_ ?_
 rotate_left
 · intro w1 hSw; obtain ⟨hcS, hfS⟩ := bcell hSw; go_simp; (try with_reducible rfl)
 (try simp only [Act.put, pu1, pu2, pu3])
 refine tkI 5 13 (v := ?_) rfl rfl ?_ ?_
 rotate_left
 · intro w1 hSw; obtain ⟨hcS, hfS⟩ := bcell hSw; go_simp; (try with_reducible rfl)
 (try simp only [Act.put, pu1, pu2, pu3])
 refine tkI 6 14 (v := ?_) rfl rfl ?_ ?_
 rotate_left
 · intro w1 hSw; obtain ⟨hcS, hfS⟩ := bcell hSw; go_simp; (try with_reducible rfl)
 (try simp only [Act.put, pu1, pu2, pu3])
 refine tkI 7 15 (v := ?_) rfl rfl ?_ ?_
 rotate_left
 · intro w1 hSw; obtain ⟨hcS, hfS⟩ := bcell hSw; go_simp; (try with_reducible rfl)
 (try simp only [Act.put, pu1, pu2, pu3])
 refine tkI 8 16 (v := ?_) rfl rfl ?_ ?_
 rotate_left
 · intro w1 hSw; obtain ⟨hcS, hfS⟩ := bcell hSw; go_simp; (try with_reducible rfl)
 (try simp only [Act.put, pu1, pu2, pu3])
 refine tkI 9 17 (v := ?_) rfl rfl ?_ ?_
 rotate_left
 · intro w1 hSw; obtain ⟨hcS, hfS⟩ := bcell hSw; go_simp; (try with_reducible rfl)
 (try simp only [Act.put, pu1, pu2, pu3])
 refine tkI 10 18 (v := ?_) rfl rfl ?_ ?_
 rotate_left
 · intro w1 hSw; obtain ⟨hcS, hfS⟩ := bcell hSw; go_simp; (try with_reducible rfl)
 (try simp only [Act.put, pu1, pu2, pu3])
 refine tkI 11 19 (v := ?_) rfl rfl ?_ ?_
 rotate_left
 · intro w1 hSw; obtain ⟨hcS, hfS⟩ := bcell hSw; go_simp; (try with_reducible rfl)
 (try simp only [Act.put, pu1, pu2, pu3])
 refine tkI 12 20 (v := ?_) rfl rfl ?_ ?_
 rotate_left
 · intro w1 hSw; obtain ⟨hcS, hfS⟩ := bcell hSw; go_simp; (try with_reducible rfl)
 (try simp only [Act.put, pu1, pu2, pu3])
 refine tkI 13 21 (v := ?_) rfl rfl ?_ ?_
 rotate_left
 · intro w1 hSw; obtain ⟨hcS, hfS⟩ := bcell hSw; go_simp; (try with_reducible rfl)
 (try simp only [Act.put, pu1, pu2, pu3])
 refine tkI 14 22 (v := ?_) rfl rfl ?_ ?_
 rotate_left
 · intro w1 hSw; obtain ⟨hcS, hfS⟩ := bcell hSw; go_simp; (try with_reducible rfl)
 (try simp only [Act.put, pu1, pu2, pu3])
 refine tkI 15 23 (v := ?_) rfl rfl ?_ ?_
 rotate_left
 · intro w1 hSw; obtain ⟨hcS, hfS⟩ := bcell hSw; go_simp; (try with_reducible rfl)
 (try simp only [Act.put, pu1, pu2, pu3])
 refine tkI 16 24 (v := ?_) rfl rfl ?_ ?_
 rotate_left
 · intro w1 hSw; obtain ⟨hcS, hfS⟩ := bcell hSw; go_simp; (try with_reducible rfl)
 (try simp only [Act.put, pu1, pu2, pu3])
 refine tkI 17 25 (v := ?_) rfl rfl ?_ ?_
 rotate_left
 · intro w1 hSw; obtain ⟨hcS, hfS⟩ := bcell hSw; go_simp; (try with_reducible rfl)
 (try simp only [Act.put, pu1, pu2, pu3])
 refine wpAnyH_ready (rs := [18]) (by kernel_rfl) (by simp) ?_
 refine AllReadyH.cons rfl (fun K hK => ?_) AllReadyH.nil
 go_simp
 refine (l2Near ⟨kc, kx, k_y, kl, kg⟩ ⟨nc, nx, ny, nl, ng⟩ _ b1 b2 b3 b4).mono ?_
 rintro e w1 ⟨rfl, hb⟩
 rw [HNR.out]
 refine hK.out _ _ (Below.and hq hb) (fun hq2 => ?_)
 clear hK K
 (try simp only [Act.put, pu1, pu2, pu3])
 refine tkI 19 27 (v := ?_) rfl rfl ?_ ?_
 rotate_left
 · intro w1 hSw; obtain ⟨hcS, hfS⟩ := bcell hSw; go_simp; (try with_reducible rfl)
 (try simp only [Act.put, pu1, pu2, pu3])
 refine tkI 20 28 (v := ?_) rfl rfl ?_ ?_
 rotate_left
 · intro w1 hSw; obtain ⟨hcS, hfS⟩ := bcell hSw; go_simp; (try with_reducible rfl)
 (try simp only [Act.put, pu1, pu2, pu3])
 refine wpAnyH_done (by kernel_rfl) ?_ _
 have BF := Lib.hid (Below.and BW.out hq2)
 have K0 := Lib.hid (K0.out.below hq2 (by first | (simp; done) | (simp; omega) | omega))
 have K1 := Lib.hid (K1.out.below hq2 (by first | (simp; done) | (simp; omega) | omega))
 have SZ0 := Lib.hid (show w.heap.size + 2 ≤ w1.heap.size by have := (hq2).size; rw [HSW.out] at this; omega)
 clear x0 HG BW a0 a1 a2 a3 a4 c0 c1 c2 c3 c4 e0 e1 hq2 gl HSW
 obtain ⟨x0, _, _⟩ := K0.out.cells
 have l1 : w.heap.size < w1.heap.size := by have := SZ0.out; omega
 have RD1 : Hid (Rd 5 Fig.cells w1 (some ⟨g, 0, none⟩) E) := (HG0.out.below BF.out).rE.rd
 go_wp2_with (at_builtin; go_loud (refine list_app Fig.len rfl _ _ 26 rfl (w.heap.size + 2) 72 I (.agg #[.int .i64 0, .int .i64 0, .int .i64 0, .int .i64 0, .int .i64 0]) 40 Try.underlying26 I1.out I2.out I3.out I4.out rfl (by decide) (.slice (some ⟨w1.heap.size, 0, none⟩) 0 0) 0 [] rfl ?o2s2 _ _ E.length E ?m2s2 rfl ?r2s2 ?n2s2 (figs_one _) ?b2s2 ?c2s2 ?d2s2 ?_))
 try case o2s2 => (exact own_base (own_nil_new w1 72 5 rfl) (by have := SZ0.out; omega))
 try case m2s2 => (rfl)
 try case r2s2 => (first | exact Rd.below RD1.out ((Below.refl _ _).alloc (Nat.le_refl _) _))
 try case r2s2.inl => (first | exact Rd.below RD1.out ((Below.refl _ _).alloc (Nat.le_refl _) _))
 try case r2s2.inr => (first | exact Rd.below RD1.out ((Below.refl _ _).alloc (Nat.le_refl _) _))
 try case n2s2 => (intro e; cases e)
 try case b2s2 => (unfold maxLen; omega)
 try case c2s2 => (omega)
 try case d2s2 => (have := SZ0.out; first | omega | (simp; omega))
 intro v2 w2 ho2 hg2 hp2
 obtain ⟨A1, c1, hv1, _⟩ := own_form ho2
 subst hv1
 have ho1' : w2.ownsRow (w.heap.size + 2) 72 5 (.slice A1 E.length c1) E.length (figs E) := by simpa [figs] using ho2
 obtain ⟨q, rfl, hq1, hq2⟩ := own_some ho1' (by omega)
 have hge : ∀ x, (Value.slice (some ⟨w1.heap.size, 0, none⟩) 0 0).ownBlock = some x → w1.heap.size ≤ x := fun x hx => by simp [Value.ownBlock] at hx; omega
 have BF2 : Hid (Below w.heap.size w w2) := Below.trans (BF.out.alloc BF.out.size (.cells #[] 72)) (Below.of_grown hg2 (by have := SZ0.out; simp; omega) (fun x hx => by have := hge x hx; have := SZ0.out; omega))
 have SZ1 := Lib.hid (show w.heap.size + 2 ≤ w2.heap.size by have := hg2.size; have := SZ0.out; simp at *; omega)
 have T0 := Lib.hid ((K0.out.alloc (.cells #[] 72)).grown hg2 (fun e => by have := hge _ e.symm; have := SZ0.out; omega))
 have T1 := Lib.hid ((K1.out.alloc (.cells #[] 72)).grown hg2 (fun e => by have := hge _ e.symm; have := SZ0.out; omega))
 have OF := Lib.hid ho1'
 clear ho2 hg2 hp2 x0 hge BF RD1 ho1' l1
 obtain ⟨y0, y1, y2⟩ := T0.out.cells
 have yf := T0.out.frozen
 have n1 : ¬ q = w.heap.size := by omega
 have n2 : ¬ w.heap.size = q := by omega
 have l1 : w.heap.size < w2.heap.size := by have := SZ1.out; omega
 go_wp2_with (fail)
 clear y0 y1 y2 yf
 have T0a := Lib.hid (T0.out.set0 (.slice (some ⟨q, 0, none⟩) E.length c1))
 have T1a := Lib.hid (T1.out.far (show w.heap.size + 1 ≠ w.heap.size by omega) (j := 0) (.slice (some ⟨q, 0, none⟩) E.length c1))
 have OFa := Lib.hid (own_put OF.out (b := w.heap.size) (by omega) 0 (.slice (some ⟨q, 0, none⟩) E.length c1))
 have HBa := Lib.hid (BF2.out.setCell (Nat.le_refl w.heap.size) (p := ⟨w.heap.size, 0, none⟩) (.slice (some ⟨q, 0, none⟩) E.length c1))
 have SZa : Hid (w.heap.size + 2 ≤ (w2.setCell ⟨w.heap.size, 0, none⟩ (.slice (some ⟨q, 0, none⟩) E.length c1)).heap.size) := by show _ ≤ _; have := SZ1.out; simp; omega
 obtain ⟨WA, hW⟩ : ∃ X, X = w2.setCell ⟨w.heap.size, 0, none⟩ (.slice (some ⟨q, 0, none⟩) E.length c1) := ⟨_, rfl⟩
 rw [← hW] at T0a T1a OFa HBa SZa ⊢
 clear hW T0 T1 OF K0 K1 BF2 SZ1 l1
 have xq : WA.cell? ⟨q, n * 5 + 3, none⟩ = some (.int .i64 nl) := by
  rw [OFa.out.cellAt (n * 5 + 3) (by omega), figs_at E n 3 hn (by omega), HFN.out]; rfl
 have ff := fun i => OFa.out.frozenAt i
 have c1x : WA.cell? ⟨w.heap.size, 0, none⟩ = some (.slice (some ⟨q, 0, none⟩) E.length c1) := T0a.out.cells.1
 refine wp_region_held_drew (S := (fun W => W.cell? ⟨w.heap.size, 0, none⟩ = some (.slice (some ⟨q, 0, none⟩) E.length c1))) (by kernel_rfl) c1x (fun hS0 => ?_)
 refine tkI 0 35 (v := ?_) rfl rfl ?_ ?_
 rotate_left
 · intro w1 hSw; go_simp; (try with_reducible rfl)
 (try simp only [Act.put, pu1, pu2, pu3])
 refine tkI 1 36 (v := ?_) rfl rfl ?_ ?_
 rotate_left
 · intro w1 hSw; go_simp; (try with_reducible rfl)
 (try simp only [Act.put, pu1, pu2, pu3])
 refine tkI 2 37 (v := ?_) rfl rfl ?_ ?_
 rotate_left
 · intro w1 hSw; go_simp; (try with_reducible rfl)
 (try simp only [Act.put, pu1, pu2, pu3])
 refine tkI 3 38 (v := ?_) rfl rfl ?_ ?_
 rotate_left
 · intro w1 hSw; go_simp; (try with_reducible rfl)
 (try simp only [Act.put, pu1, pu2, pu3])
 refine tkI 4 39 (v := ?_) rfl rfl ?_ ?_
 rotate_left
 · intro w1 hSw; go_simp; (try with_reducible rfl)
 (try simp only [Act.put, pu1, pu2, pu3])
 refine tkI 5 40 (v := ?_) rfl rfl ?_ ?_
 rotate_left
 · intro w1 hSw; go_simp; (try with_reducible rfl)
 (try simp only [Act.put, pu1, pu2, pu3])
 refine tkI 6 41 (v := ?_) rfl rfl ?_ ?_
 rotate_left
 · intro w1 hSw; go_simp; (try with_reducible rfl)
 (try simp only [Act.put, pu1, pu2, pu3])
 refine tkI 7 42 (v := ?_) rfl rfl ?_ ?_
 rotate_left
 · intro w1 hSw; go_simp; (try with_reducible rfl)
 (try simp only [Act.put, pu1, pu2, pu3])
 refine wpAnyH_ready (rs := [8]) (by kernel_rfl) (by simp) ?_
 refine AllReadyH.cons rfl (fun K hK => ?_) AllReadyH.nil
 go_simp
 refine hK.out _ _ hS0 (fun hS1 => ?_)
 clear hK K
 (try simp only [Act.put, pu1, pu2, pu3])
 refine tkI 9 44 (v := ?_) rfl rfl ?_ ?_
 rotate_left
 · intro w1 hSw; go_simp; (try with_reducible rfl)
 (try simp only [Act.put, pu1, pu2, pu3])
 refine tkI 10 45 (v := ?_) rfl rfl ?_ ?_
 rotate_left
 · intro w1 hSw; go_simp; (try with_reducible rfl)
 (try simp only [Act.put, pu1, pu2, pu3])
 refine tkI 11 46 (v := ?_) rfl rfl ?_ ?_
 rotate_left
 · intro w1 hSw; go_simp; (try with_reducible rfl)
 (try simp only [Act.put, pu1, pu2, pu3])
 refine wpAnyH_ready (rs := [12]) (by kernel_rfl) (by simp) ?_
 refine AllReadyH.cons rfl (fun K hK => ?_) AllReadyH.nil
 go_simp
 refine hK.out _ _ (by go_simp) (fun hS2 => ?_)
 clear hK K
 (try simp only [Act.put, pu1, pu2, pu3])
 refine wpAnyH_done (by kernel_rfl) ?_ _
 have T0b := Lib.hid (Three.drew (T0a.out.far n2 (j := n * 5 + 3) (.int .i64 (nl - 1))))
 have T1b := Lib.hid (Three.drew (T1a.out.far (show w.heap.size + 1 ≠ q by omega) (j := n * 5 + 3) (.int .i64 (nl - 1))))
 have OE2 : Hid ((WA.setCell ⟨q, n * 5 + 3, none⟩ (.int .i64 (nl - 1))).drew.ownsRow (w.heap.size + 2) 72 5 (.slice (some ⟨q, 0, none⟩) E.length c1) E.length (figs (E.set n ⟨nc, nx, ny, nl - 1, ng⟩))) := by
  have h := (own_set1 (n * 5 + 3) (.int .i64 (nl - 1)) (by rw [figs_length]; omega) OFa.out).1
  rw [figs_set E n 3 hn (by omega) (.int .i64 (nl - 1)) ⟨nc, nx, ny, nl - 1, ng⟩ (by rw [HFN.out]; rfl)] at h
  exact h
 have HB2 := Lib.hid (HBa.out.setCell (show w.heap.size ≤ q by omega) (p := ⟨q, n * 5 + 3, none⟩) (.int .i64 (nl - 1))).drew
 have SZ2 : Hid (w.heap.size + 2 ≤ (WA.setCell ⟨q, n * 5 + 3, none⟩ (.int .i64 (nl - 1))).drew.heap.size) := by show _ ≤ (WA.setCell ⟨q, n * 5 + 3, none⟩ (.int .i64 (nl - 1))).heap.size; have := SZa.out; simp; omega
 obtain ⟨W2, hW⟩ : ∃ X, X = (WA.setCell ⟨q, n * 5 + 3, none⟩ (.int .i64 (nl - 1))).drew := ⟨_, rfl⟩
 rw [← hW] at T0b T1b OE2 HB2 SZ2 ⊢
 clear hW T0a T1a OFa HBa c1x xq ff hS0 hS1 hS2 SZa
 have xq : W2.cell? ⟨q, n * 5 + 3, none⟩ = some (.int .i64 (nl - 1)) := by
  rw [OE2.out.cellAt (n * 5 + 3) (by omega), figs_at _ n 3 (by simpa using hn) (by omega), List.getElem_set_self]; rfl
 have LE2 : Hid ((E.set n ⟨nc, nx, ny, nl - 1, ng⟩).length = E.length) := List.length_set
 have GM2 : Hid (GmR W2 (some ⟨q, 0, none⟩) c1 B b C d (E.set n ⟨nc, nx, ny, nl - 1, ng⟩) F L) :=
  ⟨RdF.of_own OE2.out, RdI.below HG0.out.rF HB2.out, RdI.below HG0.out.rL HB2.out, (by rw [LE2.out]; exact (own_cap OE2.out).1), HG0.out.cB, HG0.out.cC, .inr ⟨q, rfl⟩, HG0.out.nB, HG0.out.nC, (fun x hx => (own_at OE2.out x hx).2), (fun x hx => Nat.lt_of_lt_of_le (HG0.out.lB x hx) HB2.out.size), (fun x hx => Nat.lt_of_lt_of_le (HG0.out.lC x hx) HB2.out.size)⟩
 obtain ⟨y0, y1, y2⟩ := T0b.out.cells
 have l1 : w.heap.size < W2.heap.size := by have := SZ2.out; omega
 go_wp2_with (fail)
 have hcall := l2Drop q c1 B b C d (E.set n ⟨nc, nx, ny, nl - 1, ng⟩) F L n j nc nx ny (nl - 1) ng v W2 (by rw [LE2.out]; exact hE) (by rw [LE2.out]; exact hn) (by rw [List.getElem_set_self]) b3 b4 b6 HPJ.out.1 HPJ.out.2.1 hjl HPJ.out.2.2 b5 GM2.out
 rw [LE2.out] at hcall
 refine hcall.mono ?_
 clear hcall y0 y1 y2 l1 xq
 rintro e w3 ⟨A', a', B', b', rfl, hG, hA, hB, hb⟩
 have T03 := Lib.hid (T0b.out.below hb (by have := SZ2.out; omega))
 have T13 := Lib.hid (T1b.out.below hb (by have := SZ2.out; omega))
 have BF3 := Lib.hid (Below.trans HB2.out (hb.mono (by have := SZ2.out; omega)))
 have HG3 := Lib.hid hG
 obtain ⟨N3, hN3⟩ : ∃ N3, N3 = ((E.set n ⟨nc, nx, ny, nl - 1, ng⟩).take n ++ (E.set n ⟨nc, nx, ny, nl - 1, ng⟩).drop (n + 1)).length := ⟨_, rfl⟩
 obtain ⟨M3, hM3⟩ : ∃ M3, M3 = (F.set j (v + ng)).length := ⟨_, rfl⟩
 have HN3 := Lib.hid hN3
 have HM3 := Lib.hid hM3
 unfold gameV
 rw [← hN3, ← hM3]
 clear hN3 hM3 hb hG
 obtain ⟨y0, y1, y2⟩ := T03.out.cells
 obtain ⟨z0, z1, z2⟩ := T13.out.cells
 have yf := T03.out.frozen
 have zf := T13.out.frozen
 go_wp2
 refine bodyPost_ret (v := .tuple #[.agg #[.slice A' N3 a', .slice B' M3 b', .slice C L.length d], .int .i64 0]) (by simp [results, Try.results106, go_sem, y0, y1, y2, z0, z1, z2]) rfl ⟨A', a', B', b', by rw [HN3.out, HM3.out], ?_⟩
 have hs := SZ2.out
 have pA : ∀ p, p < w.heap.size + 2 → ∀ x, A' = some ⟨x, 0, none⟩ → x ≠ p := fun p hp x hx => by have := hA x hx; omega
 have pB : ∀ p, p < w.heap.size + 2 → ∀ x, B' = some ⟨x, 0, none⟩ → x ≠ p := fun p hp x hx => by have := hB x hx; omega
 have pC : ∀ p, w.heap.size ≤ p → ∀ x, C = some ⟨x, 0, none⟩ → x ≠ p := fun p hp x hx => by have := HG0.out.lC x hx; omega
 have put : ∀ {wz : World} (hz : GmR wz A' a' B' b' C d ((E.set n ⟨nc, nx, ny, nl - 1, ng⟩).take n ++ (E.set n ⟨nc, nx, ny, nl - 1, ng⟩).drop (n + 1)) (F.set j (v + ng)) L) (p o : Nat) (u : Value) (h1 : w.heap.size ≤ p) (h2 : p < w.heap.size + 2), GmR (wz.setCell ⟨p, o, none⟩ u) A' a' B' b' C d ((E.set n ⟨nc, nx, ny, nl - 1, ng⟩).take n ++ (E.set n ⟨nc, nx, ny, nl - 1, ng⟩).drop (n + 1)) (F.set j (v + ng)) L := fun hz p o u h1 h2 => hz.put p o u (pA p h2) (pB p h2) (pC p h1)
 refine ⟨?_, (fun x hx => by have := hA x hx; omega), .inr (fun x hx => by have := hB x hx; omega), ?_⟩
 · iterate 6 (refine put ?_ _ _ _ (by omega) (by omega))
   exact HG3.out
 · iterate 6 (refine Below.setCell ?_ (by first | (simp; done) | (simp; omega)) _)
   exact BF3.out
end Go.Proofs.Ytameldhdegcpoaa
