import Derived.Test.YtameldhdegcpoaaGr
namespace Go.Proofs.Ytameldhdegcpoaa
open Go.ChangeShapes Go.WideShapes Go.ChangeAt Go.RowKit
set_option linter.unusedVariables false
set_option linter.unusedSimpArgs false
set_option maxRecDepth 100000 in
set_option maxHeartbeats 4000000 in
theorem givePoor (g : Nat) (a : Nat) (B : Option Addr) (b : Nat) (C : Option Addr) (d : Nat) (E : List Fig) (F L : List Int) (k : Nat) (rc rn ro rx ry kc kx k_y kl kg : Int) (w : World) (hE : E.length ≤ 4) (hk : k < E.length) (hfk : E[k]'hk = ⟨kc, kx, k_y, kl, kg⟩) (b1 : 0 ≤ kx ∧ kx ≤ 3) (b2 : 0 ≤ k_y ∧ k_y ≤ 3) (b3 : 0 ≤ kg ∧ kg ≤ 20) (o2 : (ro == 2) = false) (o3 : (ro == 3) = false) (o4 : (ro == 4) = false) (n : Nat) (hn : n < E.length) (hne : n ≠ k) (hp : posF rx E = (n : Int)) (nc nx ny nl ng : Int) (hfn : E[n]'hn = ⟨nc, nx, ny, nl, ng⟩) (b4 : 0 ≤ nx ∧ nx ≤ 3) (b5 : 0 ≤ ny ∧ ny ≤ 3) (hnr : nearB ⟨kc, kx, k_y, kl, kg⟩ ⟨nc, nx, ny, nl, ng⟩ = true) (hry : kg < ry) (hg : GmR w (some ⟨g, 0, none⟩) a B b C d E F L) :
 Calls Try.prog 88 #[gameV (some ⟨g, 0, none⟩) E.length a B F.length b C L.length d, .int .i64 (k : Int), .agg #[.int .i64 rc, .int .i64 rn, .int .i64 ro, .int .i64 rx, .int .i64 ry]] w fun e w' => e = .returned (.tuple #[gameV (some ⟨g, 0, none⟩) E.length a B F.length b C L.length d, .int .i64 7]) ∧ Below w.heap.size w w' := by
 have BW : Hid (Below w.heap.size w ((((w.alloc (.cells #[.slice (some ⟨g, 0, none⟩) E.length a, .slice B F.length b, .slice C L.length d] 29)).alloc (.cells #[.int .i64 rc, .int .i64 rn, .int .i64 ro, .int .i64 rx, .int .i64 ry] 49)).alloc (.cells #[.slice none 0 0, .slice none 0 0, .slice none 0 0] 29)).alloc (.cells #[.int .i64 kc, .int .i64 kx, .int .i64 k_y, .int .i64 kl, .int .i64 kg] 72))) := (((below_alloc2 w _ _).alloc (by simp; omega) _).alloc (by simp; omega) _)
 have HSW : Hid (((((w.alloc (.cells #[.slice (some ⟨g, 0, none⟩) E.length a, .slice B F.length b, .slice C L.length d] 29)).alloc (.cells #[.int .i64 rc, .int .i64 rn, .int .i64 ro, .int .i64 rx, .int .i64 ry] 49)).alloc (.cells #[.slice none 0 0, .slice none 0 0, .slice none 0 0] 29)).alloc (.cells #[.int .i64 kc, .int .i64 kx, .int .i64 k_y, .int .i64 kl, .int .i64 kg] 72)).heap.size = w.heap.size + 4) := by show _ = _; simp
 have K0 : Hid (Three ((((w.alloc (.cells #[.slice (some ⟨g, 0, none⟩) E.length a, .slice B F.length b, .slice C L.length d] 29)).alloc (.cells #[.int .i64 rc, .int .i64 rn, .int .i64 ro, .int .i64 rx, .int .i64 ry] 49)).alloc (.cells #[.slice none 0 0, .slice none 0 0, .slice none 0 0] 29)).alloc (.cells #[.int .i64 kc, .int .i64 kx, .int .i64 k_y, .int .i64 kl, .int .i64 kg] 72)) w.heap.size 29 (.slice (some ⟨g, 0, none⟩) E.length a) (.slice B F.length b) (.slice C L.length d)) := (((Three.new w).alloc _).alloc _).alloc _
 have KR : Hid (Bkk ((((w.alloc (.cells #[.slice (some ⟨g, 0, none⟩) E.length a, .slice B F.length b, .slice C L.length d] 29)).alloc (.cells #[.int .i64 rc, .int .i64 rn, .int .i64 ro, .int .i64 rx, .int .i64 ry] 49)).alloc (.cells #[.slice none 0 0, .slice none 0 0, .slice none 0 0] 29)).alloc (.cells #[.int .i64 kc, .int .i64 kx, .int .i64 k_y, .int .i64 kl, .int .i64 kg] 72)) (w.heap.size + 1) 49 #[.int .i64 rc, .int .i64 rn, .int .i64 ro, .int .i64 rx, .int .i64 ry]) := by have := ((Bkk.new (t := 49) (cs := #[.int .i64 rc, .int .i64 rn, .int .i64 ro, .int .i64 rx, .int .i64 ry]) (w.alloc (.cells #[.slice (some ⟨g, 0, none⟩) E.length a, .slice B F.length b, .slice C L.length d] 29))).alloc (.cells #[.slice none 0 0, .slice none 0 0, .slice none 0 0] 29)).alloc (.cells #[.int .i64 kc, .int .i64 kx, .int .i64 k_y, .int .i64 kl, .int .i64 kg] 72); simpa [Hid] using this
 have K1 : Hid (Three ((((w.alloc (.cells #[.slice (some ⟨g, 0, none⟩) E.length a, .slice B F.length b, .slice C L.length d] 29)).alloc (.cells #[.int .i64 rc, .int .i64 rn, .int .i64 ro, .int .i64 rx, .int .i64 ry] 49)).alloc (.cells #[.slice none 0 0, .slice none 0 0, .slice none 0 0] 29)).alloc (.cells #[.int .i64 kc, .int .i64 kx, .int .i64 k_y, .int .i64 kl, .int .i64 kg] 72)) (w.heap.size + 1 + 1) 29 (.slice none 0 0) (.slice none 0 0) (.slice none 0 0)) := by have := (Three.new (t := 29) (u0 := .slice none 0 0) (u1 := .slice none 0 0) (u2 := .slice none 0 0) ((w.alloc (.cells #[.slice (some ⟨g, 0, none⟩) E.length a, .slice B F.length b, .slice C L.length d] 29)).alloc (.cells #[.int .i64 rc, .int .i64 rn, .int .i64 ro, .int .i64 rx, .int .i64 ry] 49))).alloc (.cells #[.int .i64 kc, .int .i64 kx, .int .i64 k_y, .int .i64 kl, .int .i64 kg] 72); simpa [Hid] using this
 have KE : Hid (Bkk ((((w.alloc (.cells #[.slice (some ⟨g, 0, none⟩) E.length a, .slice B F.length b, .slice C L.length d] 29)).alloc (.cells #[.int .i64 rc, .int .i64 rn, .int .i64 ro, .int .i64 rx, .int .i64 ry] 49)).alloc (.cells #[.slice none 0 0, .slice none 0 0, .slice none 0 0] 29)).alloc (.cells #[.int .i64 kc, .int .i64 kx, .int .i64 k_y, .int .i64 kl, .int .i64 kg] 72)) (w.heap.size + 1 + 1 + 1) 72 #[.int .i64 kc, .int .i64 kx, .int .i64 k_y, .int .i64 kl, .int .i64 kg]) := by have := Bkk.new (t := 72) (cs := #[.int .i64 kc, .int .i64 kx, .int .i64 k_y, .int .i64 kl, .int .i64 kg]) (((w.alloc (.cells #[.slice (some ⟨g, 0, none⟩) E.length a, .slice B F.length b, .slice C L.length d] 29)).alloc (.cells #[.int .i64 rc, .int .i64 rn, .int .i64 ro, .int .i64 rx, .int .i64 ry] 49)).alloc (.cells #[.slice none 0 0, .slice none 0 0, .slice none 0 0] 29)); simpa [Hid] using this
 have HG0 := Lib.hid hg
 obtain ⟨g', hg', a0, a1, a2, a3, a4⟩ := (hg.below ((below_alloc2 w (.cells #[.slice (some ⟨g, 0, none⟩) E.length a, .slice B F.length b, .slice C L.length d] 29) (.cells #[.int .i64 rc, .int .i64 rn, .int .i64 ro, .int .i64 rx, .int .i64 ry] 49)).alloc (by simp; omega) (.cells #[.slice none 0 0, .slice none 0 0, .slice none 0 0] 29))).rE k hk
 cases hg'
 rw [hfk] at a0 a1 a2 a3 a4
 simp only at a0 a1 a2 a3 a4
 have gl : g < w.heap.size + 1 + 1 + 1 := by have := World.block_lt_of_cell? _ _ a0; simpa using this
 have i0 : (0 : Int) ≤ (k : Int) := by omega
 have i1 : (k : Int) < (E.length : Int) := by omega
 have HFK := Lib.hid hfk
 have HG := Lib.hid (hg.below BW.out)
 have HFN := Lib.hid hfn
 have HNR := Lib.hid hnr
 have HP := Lib.hid hp
 have e0 : decide ((n : Int) < 0) = false := by simp; try omega
 have e1 : ((n : Int) == (k : Int)) = false := by simp; omega
 have i2 : (0 : Int) ≤ (n : Int) := by omega
 have i3 : (n : Int) < (E.length : Int) := by omega
 clear hfn hnr hp
 have e5 : decide (kg < ry) = true := by simpa using hry
 clear hg hfk
 unfold gameV
 go_enter Try.func88, Try.ntmps88
 go_wp2_with (fail)
 refine (l2At (some ⟨g, 0, none⟩) a B b C d E F L rx _ (by omega) HG.out.rE).mono ?_
 rintro e wa ⟨rfl, hb⟩
 rw [HP.out]
 have BF := Lib.hid (Below.and BW.out hb)
 have T0 := Lib.hid (K0.out.below hb (by rw [HSW.out]; omega))
 have T1 := Lib.hid (K1.out.below hb (by rw [HSW.out]; omega))
 have TE := Lib.hid (KE.out.below hb)
 have TR := Lib.hid (KR.out.below hb)
 have SZ := Lib.hid (show w.heap.size + 4 ≤ wa.heap.size by have := hb.size; rw [HSW.out] at this; omega)
 have RE := Lib.hid ((HG.out.below hb).rE)
 clear hb K0 K1 KE KR BW HSW HG a0 a1 a2 a3 a4 gl
 obtain ⟨y0, y1, y2⟩ := T0.out.cells
 have x0 : wa.cell? ⟨w.heap.size + 1 + 1 + 1, 0, none⟩ = some (.int .i64 kc) := TE.out.cell 0
 have x1 : wa.cell? ⟨w.heap.size + 1 + 1 + 1, 1, none⟩ = some (.int .i64 kx) := TE.out.cell 1
 have x2 : wa.cell? ⟨w.heap.size + 1 + 1 + 1, 2, none⟩ = some (.int .i64 k_y) := TE.out.cell 2
 have x3 : wa.cell? ⟨w.heap.size + 1 + 1 + 1, 3, none⟩ = some (.int .i64 kl) := TE.out.cell 3
 have x4 : wa.cell? ⟨w.heap.size + 1 + 1 + 1, 4, none⟩ = some (.int .i64 kg) := TE.out.cell 4
 have l1 : w.heap.size < wa.heap.size := by have := SZ.out; omega
 have l2 : w.heap.size + 1 + 1 + 1 < wa.heap.size := by have := SZ.out; omega
 obtain ⟨g', hg', c0, c1, c2, c3, c4⟩ := RE.out n hn
 cases hg'
 rw [HFN.out] at c0 c1 c2 c3 c4
 simp only at c0 c1 c2 c3 c4
 have gl : g < wa.heap.size := by have := World.block_lt_of_cell? _ _ c0; simpa using this
 go_wp2_with (fail)
 refine wp_region_held_drew (S := fun w1 => Below wa.heap.size wa w1) (by kernel_rfl) ((Below.refl _ _).drew) (fun hq => ?_)
 refine tkI 0 22 (v := ?_) rfl rfl ?_ ?_
 rotate_left
 · intro w1 hSw; obtain ⟨hcS, hfS⟩ := bcell hSw; go_simp; (try with_reducible rfl)
 (try simp only [Act.put, pu1, pu2, pu3])
 refine tkI 1 23 (v := ?_) rfl rfl ?_ ?_
 rotate_left
 · intro w1 hSw; obtain ⟨hcS, hfS⟩ := bcell hSw; go_simp; (try with_reducible rfl)
 (try simp only [Act.put, pu1, pu2, pu3])
 refine tkI 2 24 (v := ?_) rfl rfl ?_ ?_
 rotate_left
 · intro w1 hSw; obtain ⟨hcS, hfS⟩ := bcell hSw; go_simp; (try with_reducible rfl)
 (try simp only [Act.put, pu1, pu2, pu3])
 refine tkI 3 25 (v := ?_) rfl rfl ?_ ?_
 rotate_left
 · intro w1 hSw; obtain ⟨hcS, hfS⟩ := bcell hSw; go_simp; (try with_reducible rfl)
 (try simp only [Act.put, pu1, pu2, pu3])
 refine tkI 4 26 (v := ?_) rfl rfl ?_ ?_
 rotate_left
 · intro w1 hSw; obtain ⟨hcS, hfS⟩ := bcell hSw; go_simp; (try with_reducible rfl)
 (try simp only [Act.put, pu1, pu2, pu3])
 refine tkI 5 27 (v := ?_) rfl rfl ?_ ?_
 rotate_left
 · intro w1 hSw; obtain ⟨hcS, hfS⟩ := bcell hSw; go_simp; (try with_reducible rfl)
 (try simp only [Act.put, pu1, pu2, pu3])
 refine tkI 6 28 (v := ?_) rfl rfl ?_ ?_
 rotate_left
 · intro w1 hSw; obtain ⟨hcS, hfS⟩ := bcell hSw; go_simp; (try with_reducible rfl)
 (try simp only [Act.put, pu1, pu2, pu3])
 refine tkI 7 29 (v := ?_) rfl rfl ?_ ?_
 rotate_left
 · intro w1 hSw; obtain ⟨hcS, hfS⟩ := bcell hSw; go_simp; (try with_reducible rfl)
 (try simp only [Act.put, pu1, pu2, pu3])
 refine tkI 8 30 (v := ?_) rfl rfl ?_ ?_
 rotate_left
 · intro w1 hSw; obtain ⟨hcS, hfS⟩ := bcell hSw; go_simp; (try with_reducible rfl)
 (try simp only [Act.put, pu1, pu2, pu3])
 refine tkI 9 31 (v := ?_) rfl rfl ?_ ?_
 rotate_left
 · intro w1 hSw; obtain ⟨hcS, hfS⟩ := bcell hSw; go_simp; (try with_reducible rfl)
 (try simp only [Act.put, pu1, pu2, pu3])
 refine tkI 10 32 (v := ?_) rfl rfl ?_ ?_
 rotate_left
 · intro w1 hSw; obtain ⟨hcS, hfS⟩ := bcell hSw; go_simp; (try with_reducible rfl)
 (try simp only [Act.put, pu1, pu2, pu3])
 refine tkI 11 33 (v := ?_) rfl rfl ?_ ?_
 rotate_left
 · intro w1 hSw; obtain ⟨hcS, hfS⟩ := bcell hSw; go_simp; (try with_reducible rfl)
 (try simp only [Act.put, pu1, pu2, pu3])
 refine tkI 12 34 (v := ?_) rfl rfl ?_ ?_
 rotate_left
 · intro w1 hSw; obtain ⟨hcS, hfS⟩ := bcell hSw; go_simp; (try with_reducible rfl)
 (try simp only [Act.put, pu1, pu2, pu3])
 refine tkI 13 35 (v := ?_) rfl rfl ?_ ?_
 rotate_left
 · intro w1 hSw; obtain ⟨hcS, hfS⟩ := bcell hSw; go_simp; (try with_reducible rfl)
 (try simp only [Act.put, pu1, pu2, pu3])
 refine wpAnyH_ready (rs := [14]) (by kernel_rfl) (by simp) ?_
 refine AllReadyH.cons rfl (fun K hK => ?_) AllReadyH.nil
 go_simp
 refine (l2Near ⟨kc, kx, k_y, kl, kg⟩ ⟨nc, nx, ny, nl, ng⟩ _ b1 b2 b4 b5).mono ?_
 rintro e wb ⟨rfl, hb⟩
 rw [HNR.out]
 refine hK.out _ _ (Below.and hq hb) (fun hq2 => ?_)
 clear hK K
 (try simp only [Act.put, pu1, pu2, pu3])
 refine tkI 15 37 (v := ?_) rfl rfl ?_ ?_
 rotate_left
 · intro w1 hSw; obtain ⟨hcS, hfS⟩ := bcell hSw; go_simp; (try with_reducible rfl)
 (try simp only [Act.put, pu1, pu2, pu3])
 refine tkI 16 38 (v := ?_) rfl rfl ?_ ?_
 rotate_left
 · intro w1 hSw; obtain ⟨hcS, hfS⟩ := bcell hSw; go_simp; (try with_reducible rfl)
 (try simp only [Act.put, pu1, pu2, pu3])
 refine wpAnyH_done (by kernel_rfl) ?_ _
 have BF := Lib.hid (Below.and BF.out hq2)
 have T0 := Lib.hid (T0.out.below hq2 l1)
 have T1 := Lib.hid (T1.out.below hq2 (by have := SZ.out; omega))
 have TE := Lib.hid (TE.out.below hq2)
 have TR := Lib.hid (TR.out.below hq2)
 have RE := Lib.hid (RdF.below RE.out hq2)
 have SZ := Lib.hid (show w.heap.size + 4 ≤ wb.heap.size by have := (hq2).size; have := SZ.out; omega)
 clear y0 y1 y2 x0 x1 x2 x3 x4 l1 l2 c0 c1 c2 c3 c4 gl
 have xk : wb.cell? ⟨w.heap.size + 1 + 1 + 1, 4, none⟩ = some (.int .i64 kg) := TE.out.cell 4
 have xf := TE.out.frozen
 have xr : wb.cell? ⟨w.heap.size + 1, 4, none⟩ = some (.int .i64 ry) := TR.out.cell 4
 obtain ⟨y0, y1, y2⟩ := T0.out.cells
 obtain ⟨z0, z1, z2⟩ := T1.out.cells
 have zf := T1.out.frozen
 have l1 : w.heap.size < wb.heap.size := by have := SZ.out; omega
 have BG : ∀ p0 p1 p2 : Value, Below w.heap.size w (((wb.setCell ⟨w.heap.size + 1 + 1, 0, none⟩ p0).setCell ⟨w.heap.size + 1 + 1, 1, none⟩ p1).setCell ⟨w.heap.size + 1 + 1, 2, none⟩ p2) := fun p0 p1 p2 => by
  iterate 3 (refine Below.setCell ?_ (by first | (simp; done) | (simp; omega)) _)
  exact BF.out
 go_wp2
 refine bodyPost_ret (v := .tuple #[.agg #[.slice (some ⟨g, 0, none⟩) E.length a, .slice B F.length b, .slice C L.length d], .int .i64 7]) (by simp [results, Try.results88, go_sem, y0, y1, y2, z0, z1, z2]) rfl ⟨rfl, BG _ _ _⟩
set_option maxRecDepth 100000 in
set_option maxHeartbeats 8000000 in
theorem giveYes (g : Nat) (a : Nat) (B : Option Addr) (b : Nat) (C : Option Addr) (d : Nat) (E : List Fig) (F L : List Int) (k : Nat) (rc rn ro rx ry kc kx k_y kl kg : Int) (w : World) (hE : E.length ≤ 4) (hk : k < E.length) (hfk : E[k]'hk = ⟨kc, kx, k_y, kl, kg⟩) (b1 : 0 ≤ kx ∧ kx ≤ 3) (b2 : 0 ≤ k_y ∧ k_y ≤ 3) (b3 : 0 ≤ kg ∧ kg ≤ 20) (o2 : (ro == 2) = false) (o3 : (ro == 3) = false) (o4 : (ro == 4) = false) (n : Nat) (hn : n < E.length) (hne : n ≠ k) (hp : posF rx E = (n : Int)) (nc nx ny nl ng : Int) (hfn : E[n]'hn = ⟨nc, nx, ny, nl, ng⟩) (b4 : 0 ≤ nx ∧ nx ≤ 3) (b5 : 0 ≤ ny ∧ ny ≤ 3) (hnr : nearB ⟨kc, kx, k_y, kl, kg⟩ ⟨nc, nx, ny, nl, ng⟩ = true) (b6 : 0 ≤ ng ∧ ng ≤ 1000000) (b7 : 0 ≤ ry ∧ ry ≤ 1000000) (hry : ¬ kg < ry) (hg : GmR w (some ⟨g, 0, none⟩) a B b C d E F L) :
 Calls Try.prog 88 #[gameV (some ⟨g, 0, none⟩) E.length a B F.length b C L.length d, .int .i64 (k : Int), .agg #[.int .i64 rc, .int .i64 rn, .int .i64 ro, .int .i64 rx, .int .i64 ry]] w fun e w' => ∃ A' a', e = .returned (.tuple #[gameV A' ((E.set n ⟨nc, nx, ny, nl, ng + ry⟩).set k ⟨kc, kx, k_y, kl, kg - ry⟩).length a' B F.length b C L.length d, .int .i64 0]) ∧
  GmR w' A' a' B b C d ((E.set n ⟨nc, nx, ny, nl, ng + ry⟩).set k ⟨kc, kx, k_y, kl, kg - ry⟩) F L ∧ (∀ x, A' = some ⟨x, 0, none⟩ → w.heap.size ≤ x) ∧ Below w.heap.size w w' := by
 obtain ⟨I, hi, hz0, hz1, hz2⟩ := parts_of infoEnt'
 have I1 := Lib.hid hi
 have I2 := Lib.hid hz0
 have I3 := Lib.hid hz1
 have I4 := Lib.hid hz2
 clear hi hz0 hz1 hz2
 have BW : Hid (Below w.heap.size w ((((w.alloc (.cells #[.slice (some ⟨g, 0, none⟩) E.length a, .slice B F.length b, .slice C L.length d] 29)).alloc (.cells #[.int .i64 rc, .int .i64 rn, .int .i64 ro, .int .i64 rx, .int .i64 ry] 49)).alloc (.cells #[.slice none 0 0, .slice none 0 0, .slice none 0 0] 29)).alloc (.cells #[.int .i64 kc, .int .i64 kx, .int .i64 k_y, .int .i64 kl, .int .i64 kg] 72))) := (((below_alloc2 w _ _).alloc (by simp; omega) _).alloc (by simp; omega) _)
 have HSW : Hid (((((w.alloc (.cells #[.slice (some ⟨g, 0, none⟩) E.length a, .slice B F.length b, .slice C L.length d] 29)).alloc (.cells #[.int .i64 rc, .int .i64 rn, .int .i64 ro, .int .i64 rx, .int .i64 ry] 49)).alloc (.cells #[.slice none 0 0, .slice none 0 0, .slice none 0 0] 29)).alloc (.cells #[.int .i64 kc, .int .i64 kx, .int .i64 k_y, .int .i64 kl, .int .i64 kg] 72)).heap.size = w.heap.size + 4) := by show _ = _; simp
 have K0 : Hid (Three ((((w.alloc (.cells #[.slice (some ⟨g, 0, none⟩) E.length a, .slice B F.length b, .slice C L.length d] 29)).alloc (.cells #[.int .i64 rc, .int .i64 rn, .int .i64 ro, .int .i64 rx, .int .i64 ry] 49)).alloc (.cells #[.slice none 0 0, .slice none 0 0, .slice none 0 0] 29)).alloc (.cells #[.int .i64 kc, .int .i64 kx, .int .i64 k_y, .int .i64 kl, .int .i64 kg] 72)) w.heap.size 29 (.slice (some ⟨g, 0, none⟩) E.length a) (.slice B F.length b) (.slice C L.length d)) := (((Three.new w).alloc _).alloc _).alloc _
 have KR : Hid (Bkk ((((w.alloc (.cells #[.slice (some ⟨g, 0, none⟩) E.length a, .slice B F.length b, .slice C L.length d] 29)).alloc (.cells #[.int .i64 rc, .int .i64 rn, .int .i64 ro, .int .i64 rx, .int .i64 ry] 49)).alloc (.cells #[.slice none 0 0, .slice none 0 0, .slice none 0 0] 29)).alloc (.cells #[.int .i64 kc, .int .i64 kx, .int .i64 k_y, .int .i64 kl, .int .i64 kg] 72)) (w.heap.size + 1) 49 #[.int .i64 rc, .int .i64 rn, .int .i64 ro, .int .i64 rx, .int .i64 ry]) := by have := ((Bkk.new (t := 49) (cs := #[.int .i64 rc, .int .i64 rn, .int .i64 ro, .int .i64 rx, .int .i64 ry]) (w.alloc (.cells #[.slice (some ⟨g, 0, none⟩) E.length a, .slice B F.length b, .slice C L.length d] 29))).alloc (.cells #[.slice none 0 0, .slice none 0 0, .slice none 0 0] 29)).alloc (.cells #[.int .i64 kc, .int .i64 kx, .int .i64 k_y, .int .i64 kl, .int .i64 kg] 72); simpa [Hid] using this
 have K1 : Hid (Three ((((w.alloc (.cells #[.slice (some ⟨g, 0, none⟩) E.length a, .slice B F.length b, .slice C L.length d] 29)).alloc (.cells #[.int .i64 rc, .int .i64 rn, .int .i64 ro, .int .i64 rx, .int .i64 ry] 49)).alloc (.cells #[.slice none 0 0, .slice none 0 0, .slice none 0 0] 29)).alloc (.cells #[.int .i64 kc, .int .i64 kx, .int .i64 k_y, .int .i64 kl, .int .i64 kg] 72)) (w.heap.size + 1 + 1) 29 (.slice none 0 0) (.slice none 0 0) (.slice none 0 0)) := by have := (Three.new (t := 29) (u0 := .slice none 0 0) (u1 := .slice none 0 0) (u2 := .slice none 0 0) ((w.alloc (.cells #[.slice (some ⟨g, 0, none⟩) E.length a, .slice B F.length b, .slice C L.length d] 29)).alloc (.cells #[.int .i64 rc, .int .i64 rn, .int .i64 ro, .int .i64 rx, .int .i64 ry] 49))).alloc (.cells #[.int .i64 kc, .int .i64 kx, .int .i64 k_y, .int .i64 kl, .int .i64 kg] 72); simpa [Hid] using this
 have KE : Hid (Bkk ((((w.alloc (.cells #[.slice (some ⟨g, 0, none⟩) E.length a, .slice B F.length b, .slice C L.length d] 29)).alloc (.cells #[.int .i64 rc, .int .i64 rn, .int .i64 ro, .int .i64 rx, .int .i64 ry] 49)).alloc (.cells #[.slice none 0 0, .slice none 0 0, .slice none 0 0] 29)).alloc (.cells #[.int .i64 kc, .int .i64 kx, .int .i64 k_y, .int .i64 kl, .int .i64 kg] 72)) (w.heap.size + 1 + 1 + 1) 72 #[.int .i64 kc, .int .i64 kx, .int .i64 k_y, .int .i64 kl, .int .i64 kg]) := by have := Bkk.new (t := 72) (cs := #[.int .i64 kc, .int .i64 kx, .int .i64 k_y, .int .i64 kl, .int .i64 kg]) (((w.alloc (.cells #[.slice (some ⟨g, 0, none⟩) E.length a, .slice B F.length b, .slice C L.length d] 29)).alloc (.cells #[.int .i64 rc, .int .i64 rn, .int .i64 ro, .int .i64 rx, .int .i64 ry] 49)).alloc (.cells #[.slice none 0 0, .slice none 0 0, .slice none 0 0] 29)); simpa [Hid] using this
 have HG0 := Lib.hid hg
 obtain ⟨g', hg', a0, a1, a2, a3, a4⟩ := (hg.below ((below_alloc2 w (.cells #[.slice (some ⟨g, 0, none⟩) E.length a, .slice B F.length b, .slice C L.length d] 29) (.cells #[.int .i64 rc, .int .i64 rn, .int .i64 ro, .int .i64 rx, .int .i64 ry] 49)).alloc (by simp; omega) (.cells #[.slice none 0 0, .slice none 0 0, .slice none 0 0] 29))).rE k hk
 cases hg'
 rw [hfk] at a0 a1 a2 a3 a4
 simp only at a0 a1 a2 a3 a4
 have gl : g < w.heap.size + 1 + 1 + 1 := by have := World.block_lt_of_cell? _ _ a0; simpa using this
 have i0 : (0 : Int) ≤ (k : Int) := by omega
 have i1 : (k : Int) < (E.length : Int) := by omega
 have HFK := Lib.hid hfk
 have HG := Lib.hid (hg.below BW.out)
 have HFN := Lib.hid hfn
 have HNR := Lib.hid hnr
 have HP := Lib.hid hp
 have e0 : decide ((n : Int) < 0) = false := by simp; try omega
 have e1 : ((n : Int) == (k : Int)) = false := by simp; omega
 have i2 : (0 : Int) ≤ (n : Int) := by omega
 have i3 : (n : Int) < (E.length : Int) := by omega
 clear hfn hnr hp
 have e5 : decide (kg < ry) = false := by simpa using hry
 clear hg hfk
 unfold gameV
 go_enter Try.func88, Try.ntmps88
 go_wp2_with (fail)
 refine (l2At (some ⟨g, 0, none⟩) a B b C d E F L rx _ (by omega) HG.out.rE).mono ?_
 rintro e wa ⟨rfl, hb⟩
 rw [HP.out]
 have BF := Lib.hid (Below.and BW.out hb)
 have T0 := Lib.hid (K0.out.below hb (by rw [HSW.out]; omega))
 have T1 := Lib.hid (K1.out.below hb (by rw [HSW.out]; omega))
 have TE := Lib.hid (KE.out.below hb)
 have TR := Lib.hid (KR.out.below hb)
 have SZ := Lib.hid (show w.heap.size + 4 ≤ wa.heap.size by have := hb.size; rw [HSW.out] at this; omega)
 have RE := Lib.hid ((HG.out.below hb).rE)
 clear hb K0 K1 KE KR BW HSW HG a0 a1 a2 a3 a4 gl
 obtain ⟨y0, y1, y2⟩ := T0.out.cells
 have x0 : wa.cell? ⟨w.heap.size + 1 + 1 + 1, 0, none⟩ = some (.int .i64 kc) := TE.out.cell 0
 have x1 : wa.cell? ⟨w.heap.size + 1 + 1 + 1, 1, none⟩ = some (.int .i64 kx) := TE.out.cell 1
 have x2 : wa.cell? ⟨w.heap.size + 1 + 1 + 1, 2, none⟩ = some (.int .i64 k_y) := TE.out.cell 2
 have x3 : wa.cell? ⟨w.heap.size + 1 + 1 + 1, 3, none⟩ = some (.int .i64 kl) := TE.out.cell 3
 have x4 : wa.cell? ⟨w.heap.size + 1 + 1 + 1, 4, none⟩ = some (.int .i64 kg) := TE.out.cell 4
 have l1 : w.heap.size < wa.heap.size := by have := SZ.out; omega
 have l2 : w.heap.size + 1 + 1 + 1 < wa.heap.size := by have := SZ.out; omega
 obtain ⟨g', hg', c0, c1, c2, c3, c4⟩ := RE.out n hn
 cases hg'
 rw [HFN.out] at c0 c1 c2 c3 c4
 simp only at c0 c1 c2 c3 c4
 have gl : g < wa.heap.size := by have := World.block_lt_of_cell? _ _ c0; simpa using this
 go_wp2_with (fail)
 refine wp_region_held_drew (S := fun w1 => Below wa.heap.size wa w1) (by kernel_rfl) ((Below.refl _ _).drew) (fun hq => ?_)
 refine tkI 0 22 (v := ?_) rfl rfl ?_ ?_
 rotate_left
 · intro w1 hSw; obtain ⟨hcS, hfS⟩ := bcell hSw; go_simp; (try with_reducible rfl)
 (try simp only [Act.put, pu1, pu2, pu3])
 refine tkI 1 23 (v := ?_) rfl rfl ?_ ?_
 rotate_left
 · intro w1 hSw; obtain ⟨hcS, hfS⟩ := bcell hSw; go_simp; (try with_reducible rfl)
 (try simp only [Act.put, pu1, pu2, pu3])
 refine tkI 2 24 (v := ?_) rfl rfl ?_ ?_
 rotate_left
 · intro w1 hSw; obtain ⟨hcS, hfS⟩ := bcell hSw; go_simp; (try with_reducible rfl)
 (try simp only [Act.put, pu1, pu2, pu3])
 refine tkI 3 25 (v := ?_) rfl rfl ?_ ?_
 rotate_left
 · intro w1 hSw; obtain ⟨hcS, hfS⟩ := bcell hSw; go_simp; (try with_reducible rfl)
 (try simp only [Act.put, pu1, pu2, pu3])
 refine tkI 4 26 (v := ?_) rfl rfl ?_ ?_
 rotate_left
 · intro w1 hSw; obtain ⟨hcS, hfS⟩ := bcell hSw; go_simp; (try with_reducible rfl)
 (try simp only [Act.put, pu1, pu2, pu3])
 refine tkI 5 27 (v := ?_) rfl rfl ?_ ?_
 rotate_left
 · intro w1 hSw; obtain ⟨hcS, hfS⟩ := bcell hSw; go_simp; (try with_reducible rfl)
 (try simp only [Act.put, pu1, pu2, pu3])
 refine tkI 6 28 (v := ?_) rfl rfl ?_ ?_
 rotate_left
 · intro w1 hSw; obtain ⟨hcS, hfS⟩ := bcell hSw; go_simp; (try with_reducible rfl)
 (try simp only [Act.put, pu1, pu2, pu3])
 refine tkI 7 29 (v := ?_) rfl rfl ?_ ?_
 rotate_left
 · intro w1 hSw; obtain ⟨hcS, hfS⟩ := bcell hSw; go_simp; (try with_reducible rfl)
 (try simp only [Act.put, pu1, pu2, pu3])
 refine tkI 8 30 (v := ?_) rfl rfl ?_ ?_
 rotate_left
 · intro w1 hSw; obtain ⟨hcS, hfS⟩ := bcell hSw; go_simp; (try with_reducible rfl)
 (try simp only [Act.put, pu1, pu2, pu3])
 refine tkI 9 31 (v := ?_) rfl rfl ?_ ?_
 rotate_left
 · intro w1 hSw; obtain ⟨hcS, hfS⟩ := bcell hSw; go_simp; (try with_reducible rfl)
 (try simp only [Act.put, pu1, pu2, pu3])
 refine tkI 10 32 (v := ?_) rfl rfl ?_ ?_
 rotate_left
 · intro w1 hSw; obtain ⟨hcS, hfS⟩ := bcell hSw; go_simp; (try with_reducible rfl)
 (try simp only [Act.put, pu1, pu2, pu3])
 refine tkI 11 33 (v := ?_) rfl rfl ?_ ?_
 rotate_left
 · intro w1 hSw; obtain ⟨hcS, hfS⟩ := bcell hSw; go_simp; (try with_reducible rfl)
 (try simp only [Act.put, pu1, pu2, pu3])
 refine tkI 12 34 (v := ?_) rfl rfl ?_ ?_
 rotate_left
 · intro w1 hSw; obtain ⟨hcS, hfS⟩ := bcell hSw; go_simp; (try with_reducible rfl)
 (try simp only [Act.put, pu1, pu2, pu3])
 refine tkI 13 35 (v := ?_) rfl rfl ?_ ?_
 rotate_left
 · intro w1 hSw; obtain ⟨hcS, hfS⟩ := bcell hSw; go_simp; (try with_reducible rfl)
 (try simp only [Act.put, pu1, pu2, pu3])
 refine wpAnyH_ready (rs := [14]) (by kernel_rfl) (by simp) ?_
 refine AllReadyH.cons rfl (fun K hK => ?_) AllReadyH.nil
 go_simp
 refine (l2Near ⟨kc, kx, k_y, kl, kg⟩ ⟨nc, nx, ny, nl, ng⟩ _ b1 b2 b4 b5).mono ?_
 rintro e wb ⟨rfl, hb⟩
 rw [HNR.out]
 refine hK.out _ _ (Below.and hq hb) (fun hq2 => ?_)
 clear hK K
 (try simp only [Act.put, pu1, pu2, pu3])
 refine tkI 15 37 (v := ?_) rfl rfl ?_ ?_
 rotate_left
 · intro w1 hSw; obtain ⟨hcS, hfS⟩ := bcell hSw; go_simp; (try with_reducible rfl)
 (try simp only [Act.put, pu1, pu2, pu3])
 refine tkI 16 38 (v := ?_) rfl rfl ?_ ?_
 rotate_left
 · intro w1 hSw; obtain ⟨hcS, hfS⟩ := bcell hSw; go_simp; (try with_reducible rfl)
 (try simp only [Act.put, pu1, pu2, pu3])
 refine wpAnyH_done (by kernel_rfl) ?_ _
 have BF := Lib.hid (Below.and BF.out hq2)
 have T0 := Lib.hid (T0.out.below hq2 l1)
 have T1 := Lib.hid (T1.out.below hq2 (by have := SZ.out; omega))
 have TE := Lib.hid (TE.out.below hq2)
 have TR := Lib.hid (TR.out.below hq2)
 have RE := Lib.hid (RdF.below RE.out hq2)
 have SZ := Lib.hid (show w.heap.size + 4 ≤ wb.heap.size by have := (hq2).size; have := SZ.out; omega)
 clear y0 y1 y2 x0 x1 x2 x3 x4 l1 l2 c0 c1 c2 c3 c4 gl
 have xk : wb.cell? ⟨w.heap.size + 1 + 1 + 1, 4, none⟩ = some (.int .i64 kg) := TE.out.cell 4
 have xf := TE.out.frozen
 have xr : wb.cell? ⟨w.heap.size + 1, 4, none⟩ = some (.int .i64 ry) := TR.out.cell 4
 obtain ⟨y0, y1, y2⟩ := T0.out.cells
 obtain ⟨z0, z1, z2⟩ := T1.out.cells
 have zf := T1.out.frozen
 have l1 : w.heap.size < wb.heap.size := by have := SZ.out; omega
 have q3 : IntKind.i64.wrap (kg - ry) = kg - ry := IntWalk.i64_in _ (by omega)
 have q4 : IntKind.i64.wrap (ng + ry) = ng + ry := IntWalk.i64_in _ (by omega)
 have T0e := Lib.hid (T0.out.far (show w.heap.size ≠ w.heap.size + 1 + 1 + 1 by omega) (j := 4) (.int .i64 (kg - ry)))
 have T1e := Lib.hid (T1.out.far (show w.heap.size + 1 + 1 ≠ w.heap.size + 1 + 1 + 1 by omega) (j := 4) (.int .i64 (kg - ry)))
 have TRe := Lib.hid (TR.out.far (show w.heap.size + 1 ≠ w.heap.size + 1 + 1 + 1 by omega) 4 (.int .i64 (kg - ry)))
 have TEe : Hid (Bkk (wb.setCell ⟨w.heap.size + 1 + 1 + 1, 4, none⟩ (.int .i64 (kg - ry))) (w.heap.size + 1 + 1 + 1) 72 #[.int .i64 kc, .int .i64 kx, .int .i64 k_y, .int .i64 kl, .int .i64 (kg - ry)]) := TE.out.set 4 (.int .i64 (kg - ry))
 have HBe := Lib.hid (BF.out.setCell (show w.heap.size ≤ w.heap.size + 1 + 1 + 1 by omega) (p := ⟨w.heap.size + 1 + 1 + 1, 4, none⟩) (.int .i64 (kg - ry)))
 have RDe : Hid (Rd 5 Fig.cells (wb.setCell ⟨w.heap.size + 1 + 1 + 1, 4, none⟩ (.int .i64 (kg - ry))) (some ⟨g, 0, none⟩) E) := (HG0.out.below HBe.out).rE.rd
 go_wp2_with (at_builtin; go_loud (refine list_app Fig.len rfl _ _ 26 rfl (w.heap.size + 4) 72 I (.agg #[.int .i64 0, .int .i64 0, .int .i64 0, .int .i64 0, .int .i64 0]) 40 Try.underlying26 I1.out I2.out I3.out I4.out rfl (by decide) (.slice (some ⟨wb.heap.size, 0, none⟩) 0 0) 0 [] rfl ?o1s1 _ _ E.length E ?m1s1 rfl ?r1s1 ?n1s1 (figs_one _) ?b1s1 ?c1s1 ?d1s1 ?_))
 try case o1s1 => (have := own_base (base' := w.heap.size + 4) (own_nil_new (wb.setCell ⟨w.heap.size + 1 + 1 + 1, 4, none⟩ (.int .i64 (kg - ry))) 72 5 rfl) (by have := SZ.out; simp; omega); simpa using this)
 try case m1s1 => (rfl)
 try case r1s1 => (exact Rd.below RDe.out ((Below.refl _ _).alloc (Nat.le_refl _) _))
 try case r1s1.inl => (exact Rd.below RDe.out ((Below.refl _ _).alloc (Nat.le_refl _) _))
 try case r1s1.inr => (exact Rd.below RDe.out ((Below.refl _ _).alloc (Nat.le_refl _) _))
 try case n1s1 => (intro e; cases e)
 try case b1s1 => (unfold maxLen; omega)
 try case c1s1 => (omega)
 try case d1s1 => (have := SZ.out; first | omega | (simp; omega))
 intro v1 w1 ho1 hg1 hp1
 obtain ⟨A1, c1, hv1, _⟩ := own_form ho1
 subst hv1
 have ho1' : w1.ownsRow (w.heap.size + 4) 72 5 (.slice A1 E.length c1) E.length (figs E) := by simpa [figs] using ho1
 obtain ⟨q, rfl, hq1, hq2⟩ := own_some ho1' (by omega)
 have hge : ∀ x, (Value.slice (some ⟨wb.heap.size, 0, none⟩) 0 0).ownBlock = some x → wb.heap.size ≤ x := fun x hx => by simp [Value.ownBlock] at hx; omega
 have BF1 := Lib.hid (Below.trans (HBe.out.alloc HBe.out.size (.cells #[] 72)) (Below.of_grown hg1 (by have := SZ.out; simp; omega) (fun x hx => by have := hge x hx; have := SZ.out; omega)))
 have SZ1 := Lib.hid (show w.heap.size + 4 ≤ w1.heap.size by have := hg1.size; have := SZ.out; simp at *; omega)
 have T01 := Lib.hid ((T0e.out.alloc (.cells #[] 72)).grown hg1 (fun e => by have := hge _ e.symm; have := SZ.out; omega))
 have T11 := Lib.hid ((T1e.out.alloc (.cells #[] 72)).grown hg1 (fun e => by have := hge _ e.symm; have := SZ.out; omega))
 have TE1 : Hid (Bkk w1 (w.heap.size + 1 + 1 + 1) 72 #[.int .i64 kc, .int .i64 kx, .int .i64 k_y, .int .i64 kl, .int .i64 (kg - ry)]) := (hg1.block _ (by have := SZ.out; simp; omega) (fun e => by have := hge _ e.symm; have := SZ.out; omega)).trans (TEe.out.alloc (.cells #[] 72))
 have TR1 : Hid (Bkk w1 (w.heap.size + 1) 49 #[.int .i64 rc, .int .i64 rn, .int .i64 ro, .int .i64 rx, .int .i64 ry]) := (hg1.block _ (by have := SZ.out; simp; omega) (fun e => by have := hge _ e.symm; have := SZ.out; omega)).trans (TRe.out.alloc (.cells #[] 72))
 have OF := Lib.hid ho1'
 clear ho1 hg1 hp1 hge ho1' T0e T1e TRe TEe HBe RDe y0 y1 y2 z0 z1 z2 zf xk xf xr l1 T0 T1 TE TR RE BF SZ q3 e5
 obtain ⟨y0, y1, y2⟩ := T01.out.cells
 have yf := T01.out.frozen
 have n1 : ¬ q = w.heap.size := by omega
 have n2 : ¬ w.heap.size = q := by omega
 have l1 : w.heap.size < w1.heap.size := by have := SZ1.out; omega
 go_wp2_with (fail)
 clear y0 y1 y2 yf l1
 have T0a := Lib.hid (T01.out.set0 (.slice (some ⟨q, 0, none⟩) E.length c1))
 have T1a := Lib.hid (T11.out.far (show w.heap.size + 1 + 1 ≠ w.heap.size by omega) (j := 0) (.slice (some ⟨q, 0, none⟩) E.length c1))
 have TEa := Lib.hid (TE1.out.far (show w.heap.size + 1 + 1 + 1 ≠ w.heap.size by omega) 0 (.slice (some ⟨q, 0, none⟩) E.length c1))
 have TRa := Lib.hid (TR1.out.far (show w.heap.size + 1 ≠ w.heap.size by omega) 0 (.slice (some ⟨q, 0, none⟩) E.length c1))
 have OFa := Lib.hid (own_put OF.out (b := w.heap.size) (by omega) 0 (.slice (some ⟨q, 0, none⟩) E.length c1))
 have HBa := Lib.hid (BF1.out.setCell (Nat.le_refl w.heap.size) (p := ⟨w.heap.size, 0, none⟩) (.slice (some ⟨q, 0, none⟩) E.length c1))
 have SZa : Hid (w.heap.size + 4 ≤ (w1.setCell ⟨w.heap.size, 0, none⟩ (.slice (some ⟨q, 0, none⟩) E.length c1)).heap.size) := by show _ ≤ _; have := SZ1.out; simp; omega
 obtain ⟨WA, hW⟩ : ∃ X, X = w1.setCell ⟨w.heap.size, 0, none⟩ (.slice (some ⟨q, 0, none⟩) E.length c1) := ⟨_, rfl⟩
 rw [← hW] at T0a T1a TEa TRa OFa HBa SZa ⊢
 clear hW T01 T11 TE1 TR1 OF BF1 SZ1
 have xq : WA.cell? ⟨q, n * 5 + 4, none⟩ = some (.int .i64 ng) := by
  rw [OFa.out.cellAt (n * 5 + 4) (by omega), figs_at E n 4 hn (by omega), HFN.out]; rfl
 have ff := fun i => OFa.out.frozenAt i
 have c1x : WA.cell? ⟨w.heap.size, 0, none⟩ = some (.slice (some ⟨q, 0, none⟩) E.length c1) := T0a.out.cells.1
 have c2x : WA.cell? ⟨w.heap.size + 1, 4, none⟩ = some (.int .i64 ry) := TRa.out.cell 4
 have n3 : ¬ q = w.heap.size + 1 := by omega
 have n4 : ¬ w.heap.size + 1 = q := by omega
 refine wp_region_held_drew (S := (fun W => W.cell? ⟨w.heap.size, 0, none⟩ = some (.slice (some ⟨q, 0, none⟩) E.length c1) ∧ W.cell? ⟨w.heap.size + 1, 4, none⟩ = some (.int .i64 ry))) (by kernel_rfl) ⟨c1x, c2x⟩ (fun hS0 => ?_)
 refine tkI 0 57 (v := ?_) rfl rfl ?_ ?_
 rotate_left
 · intro w1 hSw; (try dsimp only at hSw); go_split_ands; go_simp; (try with_reducible rfl)
 (try simp only [Act.put, pu1, pu2, pu3])
 refine tkI 1 58 (v := ?_) rfl rfl ?_ ?_
 rotate_left
 · intro w1 hSw; (try dsimp only at hSw); go_split_ands; go_simp; (try with_reducible rfl)
 (try simp only [Act.put, pu1, pu2, pu3])
 refine tkI 2 59 (v := ?_) rfl rfl ?_ ?_
 rotate_left
 · intro w1 hSw; (try dsimp only at hSw); go_split_ands; go_simp; (try with_reducible rfl)
 (try simp only [Act.put, pu1, pu2, pu3])
 refine tkI 3 60 (v := ?_) rfl rfl ?_ ?_
 rotate_left
 · intro w1 hSw; (try dsimp only at hSw); go_split_ands; go_simp; (try with_reducible rfl)
 (try simp only [Act.put, pu1, pu2, pu3])
 refine tkI 4 61 (v := ?_) rfl rfl ?_ ?_
 rotate_left
 · intro w1 hSw; (try dsimp only at hSw); go_split_ands; go_simp; (try with_reducible rfl)
 (try simp only [Act.put, pu1, pu2, pu3])
 refine tkI 5 62 (v := ?_) rfl rfl ?_ ?_
 rotate_left
 · intro w1 hSw; (try dsimp only at hSw); go_split_ands; go_simp; (try with_reducible rfl)
 (try simp only [Act.put, pu1, pu2, pu3])
 refine tkI 6 63 (v := ?_) rfl rfl ?_ ?_
 rotate_left
 · intro w1 hSw; (try dsimp only at hSw); go_split_ands; go_simp; (try with_reducible rfl)
 (try simp only [Act.put, pu1, pu2, pu3])
 refine tkI 7 64 (v := ?_) rfl rfl ?_ ?_
 rotate_left
 · intro w1 hSw; (try dsimp only at hSw); go_split_ands; go_simp; (try with_reducible rfl)
 (try simp only [Act.put, pu1, pu2, pu3])
 refine tkI 9 66 (v := ?_) rfl rfl ?_ ?_
 rotate_left
 · intro w1 hSw; (try dsimp only at hSw); go_split_ands; go_simp; (try with_reducible rfl)
 (try simp only [Act.put, pu1, pu2, pu3])
 refine tkI 10 67 (v := ?_) rfl rfl ?_ ?_
 rotate_left
 · intro w1 hSw; (try dsimp only at hSw); go_split_ands; go_simp; (try with_reducible rfl)
 (try simp only [Act.put, pu1, pu2, pu3])
 refine wpAnyH_ready (rs := [8]) (by kernel_rfl) (by simp) ?_
 refine AllReadyH.cons rfl (fun K hK => ?_) AllReadyH.nil
 go_simp
 refine hK.out _ _ hS0 (fun hS1 => ?_)
 clear hK K
 (try simp only [Act.put, pu1, pu2, pu3])
 refine tkI 11 68 (v := ?_) rfl rfl ?_ ?_
 rotate_left
 · intro w1 hSw; (try dsimp only at hSw); go_split_ands; go_simp; (try with_reducible rfl)
 (try simp only [Act.put, pu1, pu2, pu3])
 refine tkI 12 69 (v := ?_) rfl rfl ?_ ?_
 rotate_left
 · intro w1 hSw; (try dsimp only at hSw); go_split_ands; go_simp; (try with_reducible rfl)
 (try simp only [Act.put, pu1, pu2, pu3])
 refine tkI 13 70 (v := ?_) rfl rfl ?_ ?_
 rotate_left
 · intro w1 hSw; (try dsimp only at hSw); go_split_ands; go_simp; (try with_reducible rfl)
 (try simp only [Act.put, pu1, pu2, pu3])
 refine wpAnyH_ready (rs := [14]) (by kernel_rfl) (by simp) ?_
 refine AllReadyH.cons rfl (fun K hK => ?_) AllReadyH.nil
 go_simp
 refine hK.out _ _ ⟨by go_simp, by go_simp⟩ (fun hS2 => ?_)
 clear hK K
 (try simp only [Act.put, pu1, pu2, pu3])
 refine wpAnyH_done (by kernel_rfl) ?_ _
 clear n3 n4
 have n3 : ¬ q = w.heap.size + 1 + 1 + 1 := by omega
 have n4 : ¬ w.heap.size + 1 + 1 + 1 = q := by omega
 have T0b := Lib.hid (Three.drew (T0a.out.far n2 (j := n * 5 + 4) (.int .i64 (ng + ry))))
 have T1b := Lib.hid (Three.drew (T1a.out.far (show w.heap.size + 1 + 1 ≠ q by omega) (j := n * 5 + 4) (.int .i64 (ng + ry))))
 have TEb : Hid (Bkk (WA.setCell ⟨q, n * 5 + 4, none⟩ (.int .i64 (ng + ry))).drew (w.heap.size + 1 + 1 + 1) 72 #[.int .i64 kc, .int .i64 kx, .int .i64 k_y, .int .i64 kl, .int .i64 (kg - ry)]) := TEa.out.far n4 (n * 5 + 4) (.int .i64 (ng + ry))
 have OF2 : Hid ((WA.setCell ⟨q, n * 5 + 4, none⟩ (.int .i64 (ng + ry))).drew.ownsRow (w.heap.size + 4) 72 5 (.slice (some ⟨q, 0, none⟩) E.length c1) E.length (figs (E.set n ⟨nc, nx, ny, nl, ng + ry⟩))) := by
  have h := (own_set1 (n * 5 + 4) (.int .i64 (ng + ry)) (by rw [figs_length]; omega) OFa.out).1
  rw [figs_set E n 4 hn (by omega) (.int .i64 (ng + ry)) ⟨nc, nx, ny, nl, ng + ry⟩ (by rw [HFN.out]; rfl)] at h
  exact h
 have HB2 := Lib.hid (HBa.out.setCell (show w.heap.size ≤ q by omega) (p := ⟨q, n * 5 + 4, none⟩) (.int .i64 (ng + ry))).drew
 have SZ2 : Hid (w.heap.size + 4 ≤ (WA.setCell ⟨q, n * 5 + 4, none⟩ (.int .i64 (ng + ry))).drew.heap.size) := by show _ ≤ (WA.setCell ⟨q, n * 5 + 4, none⟩ (.int .i64 (ng + ry))).heap.size; have := SZa.out; simp; omega
 obtain ⟨W2, hW⟩ : ∃ X, X = (WA.setCell ⟨q, n * 5 + 4, none⟩ (.int .i64 (ng + ry))).drew := ⟨_, rfl⟩
 rw [← hW] at T0b T1b TEb OF2 HB2 SZ2 ⊢
 clear hW T0a T1a TEa TRa OFa HBa c1x c2x xq ff hS0 hS1 hS2 SZa q4
 have LE2 : Hid ((E.set n ⟨nc, nx, ny, nl, ng + ry⟩).length = E.length) := List.length_set
 have RD2 : Hid (Rd 5 Fig.cells W2 (some ⟨q, 0, none⟩) (E.set n ⟨nc, nx, ny, nl, ng + ry⟩)) := (RdF.of_own OF2.out).rd
 obtain ⟨y0, y1, y2⟩ := T0b.out.cells
 have l1 : w.heap.size < W2.heap.size := by have := SZ2.out; omega
 go_wp2_with (at_builtin; go_loud (refine list_app Fig.len rfl _ _ 26 rfl (w.heap.size + 4) 72 I (.agg #[.int .i64 0, .int .i64 0, .int .i64 0, .int .i64 0, .int .i64 0]) 40 Try.underlying26 I1.out I2.out I3.out I4.out rfl (by decide) (.slice (some ⟨W2.heap.size, 0, none⟩) 0 0) 0 [] rfl ?o2s2 _ _ E.length (E.set n ⟨nc, nx, ny, nl, ng + ry⟩) ?m2s2 rfl ?r2s2 ?n2s2 (figs_one _) ?b2s2 ?c2s2 ?d2s2 ?_))
 try case o2s2 => (have := own_base (base' := w.heap.size + 4) (own_nil_new W2 72 5 rfl) (by have := SZ2.out; omega); simpa using this)
 try case m2s2 => (exact LE2.out)
 try case r2s2 => (exact Rd.below RD2.out ((Below.refl _ _).alloc (Nat.le_refl _) _))
 try case r2s2.inl => (exact Rd.below RD2.out ((Below.refl _ _).alloc (Nat.le_refl _) _))
 try case r2s2.inr => (exact Rd.below RD2.out ((Below.refl _ _).alloc (Nat.le_refl _) _))
 try case n2s2 => (intro e; cases e)
 try case b2s2 => (unfold maxLen; omega)
 try case c2s2 => (omega)
 try case d2s2 => (have := SZ2.out; first | omega | (simp; omega))
 intro v2 w2 ho2 hg2 hp2
 obtain ⟨A2, c2, hv2, _⟩ := own_form ho2
 subst hv2
 have ho2' : w2.ownsRow (w.heap.size + 4) 72 5 (.slice A2 E.length c2) E.length (figs (E.set n ⟨nc, nx, ny, nl, ng + ry⟩)) := by simpa [figs] using ho2
 obtain ⟨q2, rfl, hq21, hq22⟩ := own_some ho2' (by omega)
 have hge : ∀ x, (Value.slice (some ⟨W2.heap.size, 0, none⟩) 0 0).ownBlock = some x → W2.heap.size ≤ x := fun x hx => by simp [Value.ownBlock] at hx; omega
 have BF := Lib.hid (Below.trans (HB2.out.alloc HB2.out.size (.cells #[] 72)) (Below.of_grown hg2 (by have := SZ2.out; simp; omega) (fun x hx => by have := hge x hx; have := SZ2.out; omega)))
 have SZ := Lib.hid (show w.heap.size + 4 ≤ w2.heap.size by have := hg2.size; have := SZ2.out; simp at *; omega)
 have T0 := Lib.hid ((T0b.out.alloc (.cells #[] 72)).grown hg2 (fun e => by have := hge _ e.symm; have := SZ2.out; omega))
 have T1 := Lib.hid ((T1b.out.alloc (.cells #[] 72)).grown hg2 (fun e => by have := hge _ e.symm; have := SZ2.out; omega))
 have TE : Hid (Bkk w2 (w.heap.size + 1 + 1 + 1) 72 #[.int .i64 kc, .int .i64 kx, .int .i64 k_y, .int .i64 kl, .int .i64 (kg - ry)]) := (hg2.block _ (by have := SZ2.out; simp; omega) (fun e => by have := hge _ e.symm; have := SZ2.out; omega)).trans (TEb.out.alloc (.cells #[] 72))
 have OF := Lib.hid ho2'
 clear ho2 hg2 hp2 hge ho2' T0b T1b TEb OF2 HB2 RD2 y0 y1 y2 l1 n1 n2 n3 n4
 obtain ⟨y0, y1, y2⟩ := T0.out.cells
 obtain ⟨z0, z1, z2⟩ := T1.out.cells
 have yf := T0.out.frozen
 have zf := T1.out.frozen
 have x0 : w2.cell? ⟨w.heap.size + 1 + 1 + 1, 0, none⟩ = some (.int .i64 kc) := TE.out.cell 0
 have x1 : w2.cell? ⟨w.heap.size + 1 + 1 + 1, 1, none⟩ = some (.int .i64 kx) := TE.out.cell 1
 have x2 : w2.cell? ⟨w.heap.size + 1 + 1 + 1, 2, none⟩ = some (.int .i64 k_y) := TE.out.cell 2
 have x3 : w2.cell? ⟨w.heap.size + 1 + 1 + 1, 3, none⟩ = some (.int .i64 kl) := TE.out.cell 3
 have x4 : w2.cell? ⟨w.heap.size + 1 + 1 + 1, 4, none⟩ = some (.int .i64 (kg - ry)) := TE.out.cell 4
 have xq : ∀ p, p < 5 → ∃ u, w2.cell? ⟨q2, k * 5 + p, none⟩ = some u := fun p hp => ⟨_, (OF.out.cellAt (k * 5 + p) (by omega)).trans (List.getElem?_eq_getElem (by rw [figs_length, LE2.out]; omega))⟩
 obtain ⟨v0, xq0⟩ := xq 0 (by omega)
 obtain ⟨v1, xq1⟩ := xq 1 (by omega)
 obtain ⟨v2, xq2⟩ := xq 2 (by omega)
 obtain ⟨v3, xq3⟩ := xq 3 (by omega)
 obtain ⟨v4, xq4⟩ := xq 4 (by omega)
 rw [Nat.add_zero] at xq0
 have ff := fun i => OF.out.frozenAt i
 have m1 : ¬ q2 = w.heap.size := by omega
 have m2 : ¬ w.heap.size = q2 := by omega
 have m3 : ¬ q2 = w.heap.size + 1 + 1 := by omega
 have m4 : ¬ w.heap.size + 1 + 1 = q2 := by omega
 have m5 : ¬ q2 = w.heap.size + 1 + 1 + 1 := by omega
 have m6 : ¬ w.heap.size + 1 + 1 + 1 = q2 := by omega
 have l1 : w.heap.size < w2.heap.size := by have := SZ.out; omega
 have l2 : w.heap.size + 1 + 1 < w2.heap.size := by have := SZ.out; omega
 have l3 : w.heap.size + 1 + 1 + 1 < w2.heap.size := by have := SZ.out; omega
 clear xq
 go_wp2
 have LE : ((E.set n ⟨nc, nx, ny, nl, ng + ry⟩).set k ⟨kc, kx, k_y, kl, kg - ry⟩).length = E.length := by rw [List.length_set, List.length_set]
 refine bodyPost_ret (v := .tuple #[.agg #[.slice (some ⟨q2, 0, none⟩) E.length c2, .slice B F.length b, .slice C L.length d], .int .i64 0]) (by simp [results, Try.results88, go_sem, y0, y1, y2, z0, z1, z2]) rfl ⟨some ⟨q2, 0, none⟩, c2, by rw [LE], ?_⟩
 have OG : ∀ p0 p1 p2 p3 : Value, (((((((((w2.setCell ⟨w.heap.size, 0, none⟩ p0).setCell ⟨q2, k * 5, none⟩ (.int .i64 kc)).setCell ⟨q2, k * 5 + 1, none⟩ (.int .i64 kx)).setCell ⟨q2, k * 5 + 2, none⟩ (.int .i64 k_y)).setCell ⟨q2, k * 5 + 3, none⟩ (.int .i64 kl)).setCell ⟨q2, k * 5 + 4, none⟩ (.int .i64 (kg - ry))).setCell ⟨w.heap.size + 1 + 1, 0, none⟩ p1).setCell ⟨w.heap.size + 1 + 1, 1, none⟩ p2).setCell ⟨w.heap.size + 1 + 1, 2, none⟩ p3).ownsRow (w.heap.size + 4) 72 5 (.slice (some ⟨q2, 0, none⟩) E.length c2) E.length (figs ((E.set n ⟨nc, nx, ny, nl, ng + ry⟩).set k ⟨kc, kx, k_y, kl, kg - ry⟩)) := fun p0 p1 p2 p3 => by
  iterate 3 (refine own_put ?_ (by omega) _ _)
  exact own_setFig (own_put OF.out (by omega) _ _) k (by rw [LE2.out]; exact hk) ⟨kc, kx, k_y, kl, kg - ry⟩
 have BG : ∀ p0 p1 p2 p3 : Value, Below w.heap.size w (((((((((w2.setCell ⟨w.heap.size, 0, none⟩ p0).setCell ⟨q2, k * 5, none⟩ (.int .i64 kc)).setCell ⟨q2, k * 5 + 1, none⟩ (.int .i64 kx)).setCell ⟨q2, k * 5 + 2, none⟩ (.int .i64 k_y)).setCell ⟨q2, k * 5 + 3, none⟩ (.int .i64 kl)).setCell ⟨q2, k * 5 + 4, none⟩ (.int .i64 (kg - ry))).setCell ⟨w.heap.size + 1 + 1, 0, none⟩ p1).setCell ⟨w.heap.size + 1 + 1, 1, none⟩ p2).setCell ⟨w.heap.size + 1 + 1, 2, none⟩ p3) := fun p0 p1 p2 p3 => by
  iterate 9 (refine Below.setCell ?_ (by first | (simp; done) | (simp; omega)) _)
  exact BF.out
 exact ⟨⟨RdF.of_own (OG _ _ _ _), RdI.below HG0.out.rF (BG _ _ _ _), RdI.below HG0.out.rL (BG _ _ _ _), (by rw [LE]; exact (own_cap OF.out).1), HG0.out.cB, HG0.out.cC, .inr ⟨q2, rfl⟩, HG0.out.nB, HG0.out.nC, (fun x hx => (own_at (OG _ _ _ _) x hx).2), (fun x hx => Nat.lt_of_lt_of_le (HG0.out.lB x hx) (BG _ _ _ _).size), (fun x hx => Nat.lt_of_lt_of_le (HG0.out.lC x hx) (BG _ _ _ _).size)⟩, (fun x hx => by have := (own_at OF.out x hx).1; omega), BG _ _ _ _⟩
end Go.Proofs.Ytameldhdegcpoaa
