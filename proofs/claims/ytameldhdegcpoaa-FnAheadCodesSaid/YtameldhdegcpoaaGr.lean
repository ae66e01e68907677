import Derived.Test.YtameldhdegcpoaaND
namespace Go.Proofs.Ytameldhdegcpoaa
open Go.ChangeShapes Go.WideShapes Go.ChangeAt Go.RowKit
set_option linter.unusedVariables false
set_option linter.unusedSimpArgs false
set_option maxRecDepth 100000 in
set_option maxHeartbeats 4000000 in
theorem giveNone (g : Nat) (a : Nat) (B : Option Addr) (b : Nat) (C : Option Addr) (d : Nat) (E : List Fig) (F L : List Int) (k : Nat) (rc rn ro rx ry kc kx k_y kl kg : Int) (w : World) (hE : E.length ≤ 4) (hk : k < E.length) (hfk : E[k]'hk = ⟨kc, kx, k_y, kl, kg⟩) (b1 : 0 ≤ kx ∧ kx ≤ 3) (b2 : 0 ≤ k_y ∧ k_y ≤ 3) (b3 : 0 ≤ kg ∧ kg ≤ 20) (o2 : (ro == 2) = false) (o3 : (ro == 3) = false) (o4 : (ro == 4) = false) (hp : posF rx E < 0) (hg : GmR w (some ⟨g, 0, none⟩) a B b C d E F L) :
 Calls Try.prog 88 #[gameV (some ⟨g, 0, none⟩) E.length a B F.length b C L.length d, .int .i64 (k : Int), .agg #[.int .i64 rc, .int .i64 rn, .int .i64 ro, .int .i64 rx, .int .i64 ry]] w fun e w' => e = .returned (.tuple #[gameV (some ⟨g, 0, none⟩) E.length a B F.length b C L.length d, .int .i64 8]) ∧ Below w.heap.size w w' := by
 have BW : Hid (Below w.heap.size w ((((w.alloc (.cells #[.slice (some ⟨g, 0, none⟩) E.length a, .slice B F.length b, .slice C L.length d] 29)).alloc (.cells #[.int .i64 rc, .int .i64 rn, .int .i64 ro, .int .i64 rx, .int .i64 ry] 49)).alloc (.cells #[.slice none 0 0, .slice none 0 0, .slice none 0 0] 29)).alloc (.cells #[.int .i64 kc, .int .i64 kx, .int .i64 k_y, .int .i64 kl, .int .i64 kg] 72))) := (((below_alloc2 w _ _).alloc (by simp; omega) _).alloc (by simp; omega) _)
 have HSW : Hid (((((w.alloc (.cells #[.slice (some ⟨g, 0, none⟩) E.length a, .slice B F.length b, .slice C L.length d] 29)).alloc (.cells #[.int .i64 rc, .int .i64 rn, .int .i64 ro, .int .i64 rx, .int .i64 ry] 49)).alloc (.cells #[.slice none 0 0, .slice none 0 0, .slice none 0 0] 29)).alloc (.cells #[.int .i64 kc, .int .i64 kx, .int .i64 k_y, .int .i64 kl, .int .i64 kg] 72)).heap.size = w.heap.size + 4) := by show _ = _; simp
 have K0 : Hid (Three ((((w.alloc (.cells #[.slice (some ⟨g, 0, none⟩) E.length a, .slice B F.length b, .slice C L.length d] 29)).alloc (.cells #[.int .i64 rc, .int .i64 rn, .int .i64 ro, .int .i64 rx, .int .i64 ry] 49)).alloc (.cells #[.slice none 0 0, .slice none 0 0, .slice none 0 0] 29)).alloc (.cells #[.int .i64 kc, .int .i64 kx, .int .i64 k_y, .int .i64 kl, .int .i64 kg] 72)) w.heap.size 29 (.slice (some ⟨g, 0, none⟩) E.length a) (.slice B F.length b) (.slice C L.length d)) := (((Three.new w).alloc _).alloc _).alloc _
 have KR : Hid (Bkk ((((w.alloc (.cells #[.slice (some ⟨g, 0, none⟩) E.length a, .slice B F.length b, .slice C L.length d] 29)).alloc (.cells #[.int .i64 rc, .int .i64 rn, .int .i64 ro, .int .i64 rx, .int .i64 ry] 49)).alloc (.cells #[.slice none 0 0, .slice none 0 0, .slice none 0 0] 29)).alloc (.cells #[.int .i64 kc, .int .i64 kx, .int .i64 k_y, .int .i64 kl, .int .i64 kg] 72)) (w.heap.size + 1) 49 #[.int .i64 rc, .int .i64 rn, .int .i64 ro, .int .i64 rx, .int .i64 ry]) := by have := ((Bkk.new (t := 49) (cs := #[.int .i64 rc, .int .i64 rn, .int .i64 ro, .int .i64 rx, .int .i64 ry]) (w.alloc (.cells #[.slice (some ⟨g, 0, none⟩) E.length a, .slice B F.length b, .slice C L.length d] 29))).alloc (.cells #[.slice none 0 0, .slice none 0 0, .slice none 0 0] 29)).alloc (.cells #[.int .i64 kc, .int .i64 kx, .int .i64 k_y, .int .i64 kl, .int .i64 kg] 72); simpa [Hid] using this
 have K1 : Hid (Three ((((w.alloc (.cells #[.slice (some ⟨g, 0, none⟩) E.length a, .slice B F.length b, .slice C L.length d] 29)).alloc (.cells #[.int .i64 rc, .int .i64 rn, .int .i64 ro, .int .i64 rx, .int .i64 ry] 49)).alloc (.cells #[.slice none 0 0, .slice none 0 0, .slice none 0 0] 29)).alloc (.cells #[.int .i64 kc, .int .i64 kx, .int .i64 k_y, .int .i64 kl, .int .i64 kg] 72)) (w.heap.size + 1 + 1) 29 (.slice none 0 0) (.slice none 0 0) (.slice none 0 0)) := by have := (Three.new (t := 29) (u0 := .slice none 0 0) (u1 := .slice none 0 0) (u2 := .slice none 0 0) ((w.alloc (.cells #[.slice (some ⟨g, 0, none⟩) E.length a, .slice B F.length b, .slice C L.length d] 29)).alloc (.cells #[.int .i64 rc, .int .i64 rn, .int .i64 ro, .int .i64 rx, .int .i64 ry] 49))).alloc (.cells #[.int .i64 kc, .int .i64 kx, .int .i64 k_y, .int .i64 kl, .int .i64 kg] 72); simpa [Hid] using this
 have KE : Hid (Bkk ((((w.alloc (.cells #[.slice (some ⟨g, 0, none⟩) E.length a, .slice B F.length b, .slice C L.length d] 29)).alloc (.cells #[.int .i64 rc, .int .i64 rn, .int .i64 ro, .int .i64 rx, .int .i64 ry] 49)).alloc (.cells #[.slice none 0 0, .slice none 0 0, .slice none 0 0] 29)).alloc (.cells #[.int .i64 kc, .int .i64 kx, .int .i64 k_y, .int .i64 kl, .int .i64 kg] 72)) (w.heap.size + 1 + 1 + 1) 72 #[.int .i64 kc, .int .i64 kx, .int .i64 k_y, .int .i64 kl, .int .i64 kg]) := by have := Bkk.new (t := 72) (cs := #[.int .i64 kc, .int .i64 kx, .int .i64 k_y, .int .i64 kl, .int .i64 kg]) (((w.alloc (.cells #[.slice (some ⟨g, 0, none⟩) E.length a, .slice B F.length b, .slice C L.length d] 29)).alloc (.cells #[.int .i64 rc, .int .i64 rn, .int .i64 ro, .int .i64 rx, .int .i64 ry] 49)).alloc (.cells #[.slice none 0 0, .slice none 0 0, .slice none 0 0] 29)); simpa [Hid] using this
 have HG0 := Lib.hid hg
 obtain ⟨g', hg', a0, a1, a2, a3, a4⟩ := (hg.below ((below_alloc2 w (.cells #[.slice (some ⟨g, 0, none⟩) E.length a, .slice B F.length b, .slice C L.length d] 29) (.cells #[.int .i64 rc, .int .i64 rn, .int .i64 ro, .int .i64 rx, .int .i64 ry] 49)).alloc (by simp; omega) (.cells #[.slice none 0 0, .slice none 0 0, .slice none 0 0] 29))).rE k hk
 cases hg'
 rw [hfk] at a0 a1 a2 a3 a4
 simp only at a0 a1 a2 a3 a4
 have gl : g < w.heap.size + 1 + 1 + 1 := by have := World.block_lt_of_cell? _ _ a0; simpa using this
 have i0 : (0 : Int) ≤ (k : Int) := by omega
 have i1 : (k : Int) < (E.length : Int) := by omega
 have HFK := Lib.hid hfk
 have HG := Lib.hid (hg.below BW.out)
 have e0 : decide (posF rx E < 0) = true := by simpa using hp
 clear hg hfk
 unfold gameV
 go_enter Try.func88, Try.ntmps88
 go_wp2_with (fail)
 refine (l2At (some ⟨g, 0, none⟩) a B b C d E F L rx _ (by omega) HG.out.rE).mono ?_
 rintro e wa ⟨rfl, hb⟩
 have BF := Lib.hid (Below.and BW.out hb)
 have T0 := Lib.hid (K0.out.below hb (by rw [HSW.out]; omega))
 have T1 := Lib.hid (K1.out.below hb (by rw [HSW.out]; omega))
 have TE := Lib.hid (KE.out.below hb)
 have TR := Lib.hid (KR.out.below hb)
 have SZ := Lib.hid (show w.heap.size + 4 ≤ wa.heap.size by have := hb.size; rw [HSW.out] at this; omega)
 have RE := Lib.hid ((HG.out.below hb).rE)
 clear hb K0 K1 KE KR BW HSW HG a0 a1 a2 a3 a4 gl
 obtain ⟨y0, y1, y2⟩ := T0.out.cells
 have x0 : wa.cell? ⟨w.heap.size + 1 + 1 + 1, 0, none⟩ = some (.int .i64 kc) := TE.out.cell 0
 have x1 : wa.cell? ⟨w.heap.size + 1 + 1 + 1, 1, none⟩ = some (.int .i64 kx) := TE.out.cell 1
 have x2 : wa.cell? ⟨w.heap.size + 1 + 1 + 1, 2, none⟩ = some (.int .i64 k_y) := TE.out.cell 2
 have x3 : wa.cell? ⟨w.heap.size + 1 + 1 + 1, 3, none⟩ = some (.int .i64 kl) := TE.out.cell 3
 have x4 : wa.cell? ⟨w.heap.size + 1 + 1 + 1, 4, none⟩ = some (.int .i64 kg) := TE.out.cell 4
 have l1 : w.heap.size < wa.heap.size := by have := SZ.out; omega
 have l2 : w.heap.size + 1 + 1 + 1 < wa.heap.size := by have := SZ.out; omega
 go_wp2_with (fail)
 refine wp_region_held_drew (S := fun w1 => Below wa.heap.size wa w1) (by kernel_rfl) ((Below.refl _ _).drew) (fun hq => ?_)
 refine tkI 0 22 (v := ?_) rfl rfl ?_ ?_
 rotate_left
 · intro w1 hSw; obtain ⟨hcS, hfS⟩ := bcell hSw; go_simp; (try with_reducible rfl)
 (try simp only [Act.put, pu1, pu2, pu3])
 refine tkI 1 23 (v := ?_) rfl rfl ?_ ?_
 rotate_left
 · intro w1 hSw; obtain ⟨hcS, hfS⟩ := bcell hSw; go_simp; (try with_reducible rfl)
 (try simp only [Act.put, pu1, pu2, pu3])
 refine tkI 2 24 (v := ?_) rfl rfl ?_ ?_
 rotate_left
 · intro w1 hSw; obtain ⟨hcS, hfS⟩ := bcell hSw; go_simp; (try with_reducible rfl)
 (try simp only [Act.put, pu1, pu2, pu3])
 refine tkD 3 25 (v := undef) rfl rfl (Or.inr ⟨by rfl, rfl⟩) (by assumption) ?_
 (try simp only [Act.put, pu1, pu2, pu3])
 refine tkD 4 26 (v := undef) rfl rfl (Or.inr ⟨by rfl, rfl⟩) (by assumption) ?_
 (try simp only [Act.put, pu1, pu2, pu3])
 refine tkD 5 27 (v := undef) rfl rfl (Or.inr ⟨by rfl, rfl⟩) (by assumption) ?_
 (try simp only [Act.put, pu1, pu2, pu3])
 refine tkI 6 28 (v := ?_) rfl rfl ?_ ?_
 rotate_left
 · intro w1 hSw; obtain ⟨hcS, hfS⟩ := bcell hSw; go_simp; (try with_reducible rfl)
 (try simp only [Act.put, pu1, pu2, pu3])
 refine tkI 7 29 (v := ?_) rfl rfl ?_ ?_
 rotate_left
 · intro w1 hSw; obtain ⟨hcS, hfS⟩ := bcell hSw; go_simp; (try with_reducible rfl)
 (try simp only [Act.put, pu1, pu2, pu3])
 refine tkD 8 30 (v := undef) rfl rfl (Or.inr ⟨by rfl, rfl⟩) (by assumption) ?_
 (try simp only [Act.put, pu1, pu2, pu3])
 refine tkD 9 31 (v := undef) rfl rfl (Or.inr ⟨by rfl, rfl⟩) (by assumption) ?_
 (try simp only [Act.put, pu1, pu2, pu3])
 refine tkD 10 32 (v := undef) rfl rfl (Or.inr ⟨by rfl, rfl⟩) (by assumption) ?_
 (try simp only [Act.put, pu1, pu2, pu3])
 refine tkD 11 33 (v := undef) rfl rfl (Or.inr ⟨by rfl, rfl⟩) (by assumption) ?_
 (try simp only [Act.put, pu1, pu2, pu3])
 refine tkD 12 34 (v := undef) rfl rfl (Or.inr ⟨by rfl, rfl⟩) (by assumption) ?_
 (try simp only [Act.put, pu1, pu2, pu3])
 refine tkD 13 35 (v := undef) rfl rfl (Or.inr ⟨by rfl, rfl⟩) (by assumption) ?_
 (try simp only [Act.put, pu1, pu2, pu3])
 refine tkD 14 36 (v := undef) rfl rfl (Or.inr ⟨by rfl, rfl⟩) (by assumption) ?_
 (try simp only [Act.put, pu1, pu2, pu3])
 refine tkD 15 37 (v := undef) rfl rfl (Or.inr ⟨by rfl, rfl⟩) (by assumption) ?_
 (try simp only [Act.put, pu1, pu2, pu3])
 refine tkI 16 38 (v := ?_) rfl rfl ?_ ?_
 rotate_left
 · intro w1 hSw; obtain ⟨hcS, hfS⟩ := bcell hSw; go_simp; (try with_reducible rfl)
 (try simp only [Act.put, pu1, pu2, pu3])
 refine wpAnyH_done (by kernel_rfl) ?_ _
 have BF := Lib.hid (Below.and BF.out hq)
 clear y0 y1 y2 x0 x1 x2 x3 x4 l1 l2
 obtain ⟨y0, y1, y2⟩ := T0.out.cells
 obtain ⟨z0, z1, z2⟩ := T1.out.cells
 have zf := T1.out.frozen
 have l1 := T0.out.lt
 have BG : ∀ p0 p1 p2 : Value, Below w.heap.size w (((wa.drew.setCell ⟨w.heap.size + 1 + 1, 0, none⟩ p0).setCell ⟨w.heap.size + 1 + 1, 1, none⟩ p1).setCell ⟨w.heap.size + 1 + 1, 2, none⟩ p2) := fun p0 p1 p2 => by
  iterate 3 (refine Below.setCell ?_ (by first | (simp; done) | (simp; omega)) _)
  exact BF.out
 go_wp2
 refine bodyPost_ret (v := .tuple #[.agg #[.slice (some ⟨g, 0, none⟩) E.length a, .slice B F.length b, .slice C L.length d], .int .i64 8]) (by simp [results, Try.results88, go_sem, y0, y1, y2, z0, z1, z2]) rfl ⟨rfl, BG _ _ _⟩
set_option maxRecDepth 100000 in
set_option maxHeartbeats 4000000 in
theorem giveSelf (g : Nat) (a : Nat) (B : Option Addr) (b : Nat) (C : Option Addr) (d : Nat) (E : List Fig) (F L : List Int) (k : Nat) (rc rn ro rx ry kc kx k_y kl kg : Int) (w : World) (hE : E.length ≤ 4) (hk : k < E.length) (hfk : E[k]'hk = ⟨kc, kx, k_y, kl, kg⟩) (b1 : 0 ≤ kx ∧ kx ≤ 3) (b2 : 0 ≤ k_y ∧ k_y ≤ 3) (b3 : 0 ≤ kg ∧ kg ≤ 20) (o2 : (ro == 2) = false) (o3 : (ro == 3) = false) (o4 : (ro == 4) = false) (hp : posF rx E = (k : Int)) (hg : GmR w (some ⟨g, 0, none⟩) a B b C d E F L) :
 Calls Try.prog 88 #[gameV (some ⟨g, 0, none⟩) E.length a B F.length b C L.length d, .int .i64 (k : Int), .agg #[.int .i64 rc, .int .i64 rn, .int .i64 ro, .int .i64 rx, .int .i64 ry]] w fun e w' => e = .returned (.tuple #[gameV (some ⟨g, 0, none⟩) E.length a B F.length b C L.length d, .int .i64 8]) ∧ Below w.heap.size w w' := by
 have BW : Hid (Below w.heap.size w ((((w.alloc (.cells #[.slice (some ⟨g, 0, none⟩) E.length a, .slice B F.length b, .slice C L.length d] 29)).alloc (.cells #[.int .i64 rc, .int .i64 rn, .int .i64 ro, .int .i64 rx, .int .i64 ry] 49)).alloc (.cells #[.slice none 0 0, .slice none 0 0, .slice none 0 0] 29)).alloc (.cells #[.int .i64 kc, .int .i64 kx, .int .i64 k_y, .int .i64 kl, .int .i64 kg] 72))) := (((below_alloc2 w _ _).alloc (by simp; omega) _).alloc (by simp; omega) _)
 have HSW : Hid (((((w.alloc (.cells #[.slice (some ⟨g, 0, none⟩) E.length a, .slice B F.length b, .slice C L.length d] 29)).alloc (.cells #[.int .i64 rc, .int .i64 rn, .int .i64 ro, .int .i64 rx, .int .i64 ry] 49)).alloc (.cells #[.slice none 0 0, .slice none 0 0, .slice none 0 0] 29)).alloc (.cells #[.int .i64 kc, .int .i64 kx, .int .i64 k_y, .int .i64 kl, .int .i64 kg] 72)).heap.size = w.heap.size + 4) := by show _ = _; simp
 have K0 : Hid (Three ((((w.alloc (.cells #[.slice (some ⟨g, 0, none⟩) E.length a, .slice B F.length b, .slice C L.length d] 29)).alloc (.cells #[.int .i64 rc, .int .i64 rn, .int .i64 ro, .int .i64 rx, .int .i64 ry] 49)).alloc (.cells #[.slice none 0 0, .slice none 0 0, .slice none 0 0] 29)).alloc (.cells #[.int .i64 kc, .int .i64 kx, .int .i64 k_y, .int .i64 kl, .int .i64 kg] 72)) w.heap.size 29 (.slice (some ⟨g, 0, none⟩) E.length a) (.slice B F.length b) (.slice C L.length d)) := (((Three.new w).alloc _).alloc _).alloc _
 have KR : Hid (Bkk ((((w.alloc (.cells #[.slice (some ⟨g, 0, none⟩) E.length a, .slice B F.length b, .slice C L.length d] 29)).alloc (.cells #[.int .i64 rc, .int .i64 rn, .int .i64 ro, .int .i64 rx, .int .i64 ry] 49)).alloc (.cells #[.slice none 0 0, .slice none 0 0, .slice none 0 0] 29)).alloc (.cells #[.int .i64 kc, .int .i64 kx, .int .i64 k_y, .int .i64 kl, .int .i64 kg] 72)) (w.heap.size + 1) 49 #[.int .i64 rc, .int .i64 rn, .int .i64 ro, .int .i64 rx, .int .i64 ry]) := by have := ((Bkk.new (t := 49) (cs := #[.int .i64 rc, .int .i64 rn, .int .i64 ro, .int .i64 rx, .int .i64 ry]) (w.alloc (.cells #[.slice (some ⟨g, 0, none⟩) E.length a, .slice B F.length b, .slice C L.length d] 29))).alloc (.cells #[.slice none 0 0, .slice none 0 0, .slice none 0 0] 29)).alloc (.cells #[.int .i64 kc, .int .i64 kx, .int .i64 k_y, .int .i64 kl, .int .i64 kg] 72); simpa [Hid] using this
 have K1 : Hid (Three ((((w.alloc (.cells #[.slice (some ⟨g, 0, none⟩) E.length a, .slice B F.length b, .slice C L.length d] 29)).alloc (.cells #[.int .i64 rc, .int .i64 rn, .int .i64 ro, .int .i64 rx, .int .i64 ry] 49)).alloc (.cells #[.slice none 0 0, .slice none 0 0, .slice none 0 0] 29)).alloc (.cells #[.int .i64 kc, .int .i64 kx, .int .i64 k_y, .int .i64 kl, .int .i64 kg] 72)) (w.heap.size + 1 + 1) 29 (.slice none 0 0) (.slice none 0 0) (.slice none 0 0)) := by have := (Three.new (t := 29) (u0 := .slice none 0 0) (u1 := .slice none 0 0) (u2 := .slice none 0 0) ((w.alloc (.cells #[.slice (some ⟨g, 0, none⟩) E.length a, .slice B F.length b, .slice C L.length d] 29)).alloc (.cells #[.int .i64 rc, .int .i64 rn, .int .i64 ro, .int .i64 rx, .int .i64 ry] 49))).alloc (.cells #[.int .i64 kc, .int .i64 kx, .int .i64 k_y, .int .i64 kl, .int .i64 kg] 72); simpa [Hid] using this
 have KE : Hid (Bkk ((((w.alloc (.cells #[.slice (some ⟨g, 0, none⟩) E.length a, .slice B F.length b, .slice C L.length d] 29)).alloc (.cells #[.int .i64 rc, .int .i64 rn, .int .i64 ro, .int .i64 rx, .int .i64 ry] 49)).alloc (.cells #[.slice none 0 0, .slice none 0 0, .slice none 0 0] 29)).alloc (.cells #[.int .i64 kc, .int .i64 kx, .int .i64 k_y, .int .i64 kl, .int .i64 kg] 72)) (w.heap.size + 1 + 1 + 1) 72 #[.int .i64 kc, .int .i64 kx, .int .i64 k_y, .int .i64 kl, .int .i64 kg]) := by have := Bkk.new (t := 72) (cs := #[.int .i64 kc, .int .i64 kx, .int .i64 k_y, .int .i64 kl, .int .i64 kg]) (((w.alloc (.cells #[.slice (some ⟨g, 0, none⟩) E.length a, .slice B F.length b, .slice C L.length d] 29)).alloc (.cells #[.int .i64 rc, .int .i64 rn, .int .i64 ro, .int .i64 rx, .int .i64 ry] 49)).alloc (.cells #[.slice none 0 0, .slice none 0 0, .slice none 0 0] 29)); simpa [Hid] using this
 have HG0 := Lib.hid hg
 obtain ⟨g', hg', a0, a1, a2, a3, a4⟩ := (hg.below ((below_alloc2 w (.cells #[.slice (some ⟨g, 0, none⟩) E.length a, .slice B F.length b, .slice C L.length d] 29) (.cells #[.int .i64 rc, .int .i64 rn, .int .i64 ro, .int .i64 rx, .int .i64 ry] 49)).alloc (by simp; omega) (.cells #[.slice none 0 0, .slice none 0 0, .slice none 0 0] 29))).rE k hk
 cases hg'
 rw [hfk] at a0 a1 a2 a3 a4
 simp only at a0 a1 a2 a3 a4
 have gl : g < w.heap.size + 1 + 1 + 1 := by have := World.block_lt_of_cell? _ _ a0; simpa using this
 have i0 : (0 : Int) ≤ (k : Int) := by omega
 have i1 : (k : Int) < (E.length : Int) := by omega
 have HFK := Lib.hid hfk
 have HG := Lib.hid (hg.below BW.out)
 have HP := Lib.hid hp
 have e0 : decide ((k : Int) < 0) = false := by simp; try omega
 have e1 : ((k : Int) == (k : Int)) = true := by simp
 clear hp
 clear hg hfk
 unfold gameV
 go_enter Try.func88, Try.ntmps88
 go_wp2_with (fail)
 refine (l2At (some ⟨g, 0, none⟩) a B b C d E F L rx _ (by omega) HG.out.rE).mono ?_
 rintro e wa ⟨rfl, hb⟩
 rw [HP.out]
 have BF := Lib.hid (Below.and BW.out hb)
 have T0 := Lib.hid (K0.out.below hb (by rw [HSW.out]; omega))
 have T1 := Lib.hid (K1.out.below hb (by rw [HSW.out]; omega))
 have TE := Lib.hid (KE.out.below hb)
 have TR := Lib.hid (KR.out.below hb)
 have SZ := Lib.hid (show w.heap.size + 4 ≤ wa.heap.size by have := hb.size; rw [HSW.out] at this; omega)
 have RE := Lib.hid ((HG.out.below hb).rE)
 clear hb K0 K1 KE KR BW HSW HG a0 a1 a2 a3 a4 gl
 obtain ⟨y0, y1, y2⟩ := T0.out.cells
 have x0 : wa.cell? ⟨w.heap.size + 1 + 1 + 1, 0, none⟩ = some (.int .i64 kc) := TE.out.cell 0
 have x1 : wa.cell? ⟨w.heap.size + 1 + 1 + 1, 1, none⟩ = some (.int .i64 kx) := TE.out.cell 1
 have x2 : wa.cell? ⟨w.heap.size + 1 + 1 + 1, 2, none⟩ = some (.int .i64 k_y) := TE.out.cell 2
 have x3 : wa.cell? ⟨w.heap.size + 1 + 1 + 1, 3, none⟩ = some (.int .i64 kl) := TE.out.cell 3
 have x4 : wa.cell? ⟨w.heap.size + 1 + 1 + 1, 4, none⟩ = some (.int .i64 kg) := TE.out.cell 4
 have l1 : w.heap.size < wa.heap.size := by have := SZ.out; omega
 have l2 : w.heap.size + 1 + 1 + 1 < wa.heap.size := by have := SZ.out; omega
 go_wp2_with (fail)
 refine wp_region_held_drew (S := fun w1 => Below wa.heap.size wa w1) (by kernel_rfl) ((Below.refl _ _).drew) (fun hq => ?_)
 refine tkI 0 22 (v := ?_) rfl rfl ?_ ?_
 rotate_left
 · intro w1 hSw; obtain ⟨hcS, hfS⟩ := bcell hSw; go_simp; (try with_reducible rfl)
 (try simp only [Act.put, pu1, pu2, pu3])
 refine tkI 1 23 (v := ?_) rfl rfl ?_ ?_
 rotate_left
 · intro w1 hSw; obtain ⟨hcS, hfS⟩ := bcell hSw; go_simp; (try with_reducible rfl)
 (try simp only [Act.put, pu1, pu2, pu3])
 refine tkI 2 24 (v := ?_) rfl rfl ?_ ?_
 rotate_left
 · intro w1 hSw; obtain ⟨hcS, hfS⟩ := bcell hSw; go_simp; (try with_reducible rfl)
 (try simp only [Act.put, pu1, pu2, pu3])
 refine tkI 3 25 (v := ?_) rfl rfl ?_ ?_
 rotate_left
 · intro w1 hSw; obtain ⟨hcS, hfS⟩ := bcell hSw; go_simp; (try with_reducible rfl)
 (try simp only [Act.put, pu1, pu2, pu3])
 refine tkI 4 26 (v := ?_) rfl rfl ?_ ?_
 rotate_left
 · intro w1 hSw; obtain ⟨hcS, hfS⟩ := bcell hSw; go_simp; (try with_reducible rfl)
 (try simp only [Act.put, pu1, pu2, pu3])
 refine tkI 5 27 (v := ?_) rfl rfl ?_ ?_
 rotate_left
 · intro w1 hSw; obtain ⟨hcS, hfS⟩ := bcell hSw; go_simp; (try with_reducible rfl)
 (try simp only [Act.put, pu1, pu2, pu3])
 refine tkI 6 28 (v := ?_) rfl rfl ?_ ?_
 rotate_left
 · intro w1 hSw; obtain ⟨hcS, hfS⟩ := bcell hSw; go_simp; (try with_reducible rfl)
 (try simp only [Act.put, pu1, pu2, pu3])
 refine tkI 7 29 (v := ?_) rfl rfl ?_ ?_
 rotate_left
 · intro w1 hSw; obtain ⟨hcS, hfS⟩ := bcell hSw; go_simp; (try with_reducible rfl)
 (try simp only [Act.put, pu1, pu2, pu3])
 refine tkD 8 30 (v := undef) rfl rfl (Or.inr ⟨by rfl, rfl⟩) (by assumption) ?_
 (try simp only [Act.put, pu1, pu2, pu3])
 refine tkD 9 31 (v := undef) rfl rfl (Or.inr ⟨by rfl, rfl⟩) (by assumption) ?_
 (try simp only [Act.put, pu1, pu2, pu3])
 refine tkD 10 32 (v := undef) rfl rfl (Or.inr ⟨by rfl, rfl⟩) (by assumption) ?_
 (try simp only [Act.put, pu1, pu2, pu3])
 refine tkD 11 33 (v := undef) rfl rfl (Or.inr ⟨by rfl, rfl⟩) (by assumption) ?_
 (try simp only [Act.put, pu1, pu2, pu3])
 refine tkD 12 34 (v := undef) rfl rfl (Or.inr ⟨by rfl, rfl⟩) (by assumption) ?_
 (try simp only [Act.put, pu1, pu2, pu3])
 refine tkD 13 35 (v := undef) rfl rfl (Or.inr ⟨by rfl, rfl⟩) (by assumption) ?_
 (try simp only [Act.put, pu1, pu2, pu3])
 refine tkD 14 36 (v := undef) rfl rfl (Or.inr ⟨by rfl, rfl⟩) (by assumption) ?_
 (try simp only [Act.put, pu1, pu2, pu3])
 refine tkD 15 37 (v := undef) rfl rfl (Or.inr ⟨by rfl, rfl⟩) (by assumption) ?_
 (try simp only [Act.put, pu1, pu2, pu3])
 refine tkI 16 38 (v := ?_) rfl rfl ?_ ?_
 rotate_left
 · intro w1 hSw; obtain ⟨hcS, hfS⟩ := bcell hSw; go_simp; (try with_reducible rfl)
 (try simp only [Act.put, pu1, pu2, pu3])
 refine wpAnyH_done (by kernel_rfl) ?_ _
 have BF := Lib.hid (Below.and BF.out hq)
 clear y0 y1 y2 x0 x1 x2 x3 x4 l1 l2
 obtain ⟨y0, y1, y2⟩ := T0.out.cells
 obtain ⟨z0, z1, z2⟩ := T1.out.cells
 have zf := T1.out.frozen
 have l1 := T0.out.lt
 have BG : ∀ p0 p1 p2 : Value, Below w.heap.size w (((wa.drew.setCell ⟨w.heap.size + 1 + 1, 0, none⟩ p0).setCell ⟨w.heap.size + 1 + 1, 1, none⟩ p1).setCell ⟨w.heap.size + 1 + 1, 2, none⟩ p2) := fun p0 p1 p2 => by
  iterate 3 (refine Below.setCell ?_ (by first | (simp; done) | (simp; omega)) _)
  exact BF.out
 go_wp2
 refine bodyPost_ret (v := .tuple #[.agg #[.slice (some ⟨g, 0, none⟩) E.length a, .slice B F.length b, .slice C L.length d], .int .i64 8]) (by simp [results, Try.results88, go_sem, y0, y1, y2, z0, z1, z2]) rfl ⟨rfl, BG _ _ _⟩
set_option maxRecDepth 100000 in
set_option maxHeartbeats 4000000 in
theorem giveFar (g : Nat) (a : Nat) (B : Option Addr) (b : Nat) (C : Option Addr) (d : Nat) (E : List Fig) (F L : List Int) (k : Nat) (rc rn ro rx ry kc kx k_y kl kg : Int) (w : World) (hE : E.length ≤ 4) (hk : k < E.length) (hfk : E[k]'hk = ⟨kc, kx, k_y, kl, kg⟩) (b1 : 0 ≤ kx ∧ kx ≤ 3) (b2 : 0 ≤ k_y ∧ k_y ≤ 3) (b3 : 0 ≤ kg ∧ kg ≤ 20) (o2 : (ro == 2) = false) (o3 : (ro == 3) = false) (o4 : (ro == 4) = false) (n : Nat) (hn : n < E.length) (hne : n ≠ k) (hp : posF rx E = (n : Int)) (nc nx ny nl ng : Int) (hfn : E[n]'hn = ⟨nc, nx, ny, nl, ng⟩) (b4 : 0 ≤ nx ∧ nx ≤ 3) (b5 : 0 ≤ ny ∧ ny ≤ 3) (hnr : nearB ⟨kc, kx, k_y, kl, kg⟩ ⟨nc, nx, ny, nl, ng⟩ = false) (hg : GmR w (some ⟨g, 0, none⟩) a B b C d E F L) :
 Calls Try.prog 88 #[gameV (some ⟨g, 0, none⟩) E.length a B F.length b C L.length d, .int .i64 (k : Int), .agg #[.int .i64 rc, .int .i64 rn, .int .i64 ro, .int .i64 rx, .int .i64 ry]] w fun e w' => e = .returned (.tuple #[gameV (some ⟨g, 0, none⟩) E.length a B F.length b C L.length d, .int .i64 8]) ∧ Below w.heap.size w w' := by
 have BW : Hid (Below w.heap.size w ((((w.alloc (.cells #[.slice (some ⟨g, 0, none⟩) E.length a, .slice B F.length b, .slice C L.length d] 29)).alloc (.cells #[.int .i64 rc, .int .i64 rn, .int .i64 ro, .int .i64 rx, .int .i64 ry] 49)).alloc (.cells #[.slice none 0 0, .slice none 0 0, .slice none 0 0] 29)).alloc (.cells #[.int .i64 kc, .int .i64 kx, .int .i64 k_y, .int .i64 kl, .int .i64 kg] 72))) := (((below_alloc2 w _ _).alloc (by simp; omega) _).alloc (by simp; omega) _)
 have HSW : Hid (((((w.alloc (.cells #[.slice (some ⟨g, 0, none⟩) E.length a, .slice B F.length b, .slice C L.length d] 29)).alloc (.cells #[.int .i64 rc, .int .i64 rn, .int .i64 ro, .int .i64 rx, .int .i64 ry] 49)).alloc (.cells #[.slice none 0 0, .slice none 0 0, .slice none 0 0] 29)).alloc (.cells #[.int .i64 kc, .int .i64 kx, .int .i64 k_y, .int .i64 kl, .int .i64 kg] 72)).heap.size = w.heap.size + 4) := by show _ = _; simp
 have K0 : Hid (Three ((((w.alloc (.cells #[.slice (some ⟨g, 0, none⟩) E.length a, .slice B F.length b, .slice C L.length d] 29)).alloc (.cells #[.int .i64 rc, .int .i64 rn, .int .i64 ro, .int .i64 rx, .int .i64 ry] 49)).alloc (.cells #[.slice none 0 0, .slice none 0 0, .slice none 0 0] 29)).alloc (.cells #[.int .i64 kc, .int .i64 kx, .int .i64 k_y, .int .i64 kl, .int .i64 kg] 72)) w.heap.size 29 (.slice (some ⟨g, 0, none⟩) E.length a) (.slice B F.length b) (.slice C L.length d)) := (((Three.new w).alloc _).alloc _).alloc _
 have KR : Hid (Bkk ((((w.alloc (.cells #[.slice (some ⟨g, 0, none⟩) E.length a, .slice B F.length b, .slice C L.length d] 29)).alloc (.cells #[.int .i64 rc, .int .i64 rn, .int .i64 ro, .int .i64 rx, .int .i64 ry] 49)).alloc (.cells #[.slice none 0 0, .slice none 0 0, .slice none 0 0] 29)).alloc (.cells #[.int .i64 kc, .int .i64 kx, .int .i64 k_y, .int .i64 kl, .int .i64 kg] 72)) (w.heap.size + 1) 49 #[.int .i64 rc, .int .i64 rn, .int .i64 ro, .int .i64 rx, .int .i64 ry]) := by have := ((Bkk.new (t := 49) (cs := #[.int .i64 rc, .int .i64 rn, .int .i64 ro, .int .i64 rx, .int .i64 ry]) (w.alloc (.cells #[.slice (some ⟨g, 0, none⟩) E.length a, .slice B F.length b, .slice C L.length d] 29))).alloc (.cells #[.slice none 0 0, .slice none 0 0, .slice none 0 0] 29)).alloc (.cells #[.int .i64 kc, .int .i64 kx, .int .i64 k_y, .int .i64 kl, .int .i64 kg] 72); simpa [Hid] using this
 have K1 : Hid (Three ((((w.alloc (.cells #[.slice (some ⟨g, 0, none⟩) E.length a, .slice B F.length b, .slice C L.length d] 29)).alloc (.cells #[.int .i64 rc, .int .i64 rn, .int .i64 ro, .int .i64 rx, .int .i64 ry] 49)).alloc (.cells #[.slice none 0 0, .slice none 0 0, .slice none 0 0] 29)).alloc (.cells #[.int .i64 kc, .int .i64 kx, .int .i64 k_y, .int .i64 kl, .int .i64 kg] 72)) (w.heap.size + 1 + 1) 29 (.slice none 0 0) (.slice none 0 0) (.slice none 0 0)) := by have := (Three.new (t := 29) (u0 := .slice none 0 0) (u1 := .slice none 0 0) (u2 := .slice none 0 0) ((w.alloc (.cells #[.slice (some ⟨g, 0, none⟩) E.length a, .slice B F.length b, .slice C L.length d] 29)).alloc (.cells #[.int .i64 rc, .int .i64 rn, .int .i64 ro, .int .i64 rx, .int .i64 ry] 49))).alloc (.cells #[.int .i64 kc, .int .i64 kx, .int .i64 k_y, .int .i64 kl, .int .i64 kg] 72); simpa [Hid] using this
 have KE : Hid (Bkk ((((w.alloc (.cells #[.slice (some ⟨g, 0, none⟩) E.length a, .slice B F.length b, .slice C L.length d] 29)).alloc (.cells #[.int .i64 rc, .int .i64 rn, .int .i64 ro, .int .i64 rx, .int .i64 ry] 49)).alloc (.cells #[.slice none 0 0, .slice none 0 0, .slice none 0 0] 29)).alloc (.cells #[.int .i64 kc, .int .i64 kx, .int .i64 k_y, .int .i64 kl, .int .i64 kg] 72)) (w.heap.size + 1 + 1 + 1) 72 #[.int .i64 kc, .int .i64 kx, .int .i64 k_y, .int .i64 kl, .int .i64 kg]) := by have := Bkk.new (t := 72) (cs := #[.int .i64 kc, .int .i64 kx, .int .i64 k_y, .int .i64 kl, .int .i64 kg]) (((w.alloc (.cells #[.slice (some ⟨g, 0, none⟩) E.length a, .slice B F.length b, .slice C L.length d] 29)).alloc (.cells #[.int .i64 rc, .int .i64 rn, .int .i64 ro, .int .i64 rx, .int .i64 ry] 49)).alloc (.cells #[.slice none 0 0, .slice none 0 0, .slice none 0 0] 29)); simpa [Hid] using this
 have HG0 := Lib.hid hg
 obtain ⟨g', hg', a0, a1, a2, a3, a4⟩ := (hg.below ((below_alloc2 w (.cells #[.slice (some ⟨g, 0, none⟩) E.length a, .slice B F.length b, .slice C L.length d] 29) (.cells #[.int .i64 rc, .int .i64 rn, .int .i64 ro, .int .i64 rx, .int .i64 ry] 49)).alloc (by simp; omega) (.cells #[.slice none 0 0, .slice none 0 0, .slice none 0 0] 29))).rE k hk
 cases hg'
 rw [hfk] at a0 a1 a2 a3 a4
 simp only at a0 a1 a2 a3 a4
 have gl : g < w.heap.size + 1 + 1 + 1 := by have := World.block_lt_of_cell? _ _ a0; simpa using this
 have i0 : (0 : Int) ≤ (k : Int) := by omega
 have i1 : (k : Int) < (E.length : Int) := by omega
 have HFK := Lib.hid hfk
 have HG := Lib.hid (hg.below BW.out)
 have HFN := Lib.hid hfn
 have HNR := Lib.hid hnr
 have HP := Lib.hid hp
 have e0 : decide ((n : Int) < 0) = false := by simp; try omega
 have e1 : ((n : Int) == (k : Int)) = false := by simp; omega
 have i2 : (0 : Int) ≤ (n : Int) := by omega
 have i3 : (n : Int) < (E.length : Int) := by omega
 clear hfn hnr hp
 clear hg hfk
 unfold gameV
 go_enter Try.func88, Try.ntmps88
 go_wp2_with (fail)
 refine (l2At (some ⟨g, 0, none⟩) a B b C d E F L rx _ (by omega) HG.out.rE).mono ?_
 rintro e wa ⟨rfl, hb⟩
 rw [HP.out]
 have BF := Lib.hid (Below.and BW.out hb)
 have T0 := Lib.hid (K0.out.below hb (by rw [HSW.out]; omega))
 have T1 := Lib.hid (K1.out.below hb (by rw [HSW.out]; omega))
 have TE := Lib.hid (KE.out.below hb)
 have TR := Lib.hid (KR.out.below hb)
 have SZ := Lib.hid (show w.heap.size + 4 ≤ wa.heap.size by have := hb.size; rw [HSW.out] at this; omega)
 have RE := Lib.hid ((HG.out.below hb).rE)
 clear hb K0 K1 KE KR BW HSW HG a0 a1 a2 a3 a4 gl
 obtain ⟨y0, y1, y2⟩ := T0.out.cells
 have x0 : wa.cell? ⟨w.heap.size + 1 + 1 + 1, 0, none⟩ = some (.int .i64 kc) := TE.out.cell 0
 have x1 : wa.cell? ⟨w.heap.size + 1 + 1 + 1, 1, none⟩ = some (.int .i64 kx) := TE.out.cell 1
 have x2 : wa.cell? ⟨w.heap.size + 1 + 1 + 1, 2, none⟩ = some (.int .i64 k_y) := TE.out.cell 2
 have x3 : wa.cell? ⟨w.heap.size + 1 + 1 + 1, 3, none⟩ = some (.int .i64 kl) := TE.out.cell 3
 have x4 : wa.cell? ⟨w.heap.size + 1 + 1 + 1, 4, none⟩ = some (.int .i64 kg) := TE.out.cell 4
 have l1 : w.heap.size < wa.heap.size := by have := SZ.out; omega
 have l2 : w.heap.size + 1 + 1 + 1 < wa.heap.size := by have := SZ.out; omega
 obtain ⟨g', hg', c0, c1, c2, c3, c4⟩ := RE.out n hn
 cases hg'
 rw [HFN.out] at c0 c1 c2 c3 c4
 simp only at c0 c1 c2 c3 c4
 have gl : g < wa.heap.size := by have := World.block_lt_of_cell? _ _ c0; simpa using this
 go_wp2_with (fail)
 refine wp_region_held_drew (S := fun w1 => Below wa.heap.size wa w1) (by kernel_rfl) ((Below.refl _ _).drew) (fun hq => ?_)
 refine tkI 0 22 (v := ?_) rfl rfl ?_ ?_
 rotate_left
 · intro w1 hSw; obtain ⟨hcS, hfS⟩ := bcell hSw; go_simp; (try with_reducible rfl)
 (try simp only [Act.put, pu1, pu2, pu3])
 refine tkI 1 23 (v := ?_) rfl rfl ?_ ?_
 rotate_left
 · intro w1 hSw; obtain ⟨hcS, hfS⟩ := bcell hSw; go_simp; (try with_reducible rfl)
 (try simp only [Act.put, pu1, pu2, pu3])
 refine tkI 2 24 (v := ?_) rfl rfl ?_ ?_
 rotate_left
 · intro w1 hSw; obtain ⟨hcS, hfS⟩ := bcell hSw; go_simp; (try with_reducible rfl)
 (try simp only [Act.put, pu1, pu2, pu3])
 refine tkI 3 25 (v := ?_) rfl rfl ?_ ?_
 rotate_left
 · intro w1 hSw; obtain ⟨hcS, hfS⟩ := bcell hSw; go_simp; (try with_reducible rfl)
 (try simp only [Act.put, pu1, pu2, pu3])
 refine tkI 4 26 (v := ?_) rfl rfl ?_ ?_
 rotate_left
 · intro w1 hSw; obtain ⟨hcS, hfS⟩ := bcell hSw; go_simp; (try with_reducible rfl)
 (try simp only [Act.put, pu1, pu2, pu3])
 refine tkI 5 27 (v := ?_) rfl rfl ?_ ?_
 rotate_left
 · intro w1 hSw; obtain ⟨hcS, hfS⟩ := bcell hSw; go_simp; (try with_reducible rfl)
 (try simp only [Act.put, pu1, pu2, pu3])
 refine tkI 6 28 (v := ?_) rfl rfl ?_ ?_
 rotate_left
 · intro w1 hSw; obtain ⟨hcS, hfS⟩ := bcell hSw; go_simp; (try with_reducible rfl)
 (try simp only [Act.put, pu1, pu2, pu3])
 refine tkI 7 29 (v := ?_) rfl rfl ?_ ?_
 rotate_left
 · intro w1 hSw; obtain ⟨hcS, hfS⟩ := bcell hSw; go_simp; (try with_reducible rfl)
 (try simp only [Act.put, pu1, pu2, pu3])
 refine tkI 8 30 (v := ?_) rfl rfl ?_ ?_
 rotate_left
 · intro w1 hSw; obtain ⟨hcS, hfS⟩ := bcell hSw; go_simp; (try with_reducible rfl)
 (try simp only [Act.put, pu1, pu2, pu3])
 refine tkI 9 31 (v := ?_) rfl rfl ?_ ?_
 rotate_left
 · intro w1 hSw; obtain ⟨hcS, hfS⟩ := bcell hSw; go_simp; (try with_reducible rfl)
 (try simp only [Act.put, pu1, pu2, pu3])
 refine tkI 10 32 (v := ?_) rfl rfl ?_ ?_
 rotate_left
 · intro w1 hSw; obtain ⟨hcS, hfS⟩ := bcell hSw; go_simp; (try with_reducible rfl)
 (try simp only [Act.put, pu1, pu2, pu3])
 refine tkI 11 33 (v := ?_) rfl rfl ?_ ?_
 rotate_left
 · intro w1 hSw; obtain ⟨hcS, hfS⟩ := bcell hSw; go_simp; (try with_reducible rfl)
 (try simp only [Act.put, pu1, pu2, pu3])
 refine tkI 12 34 (v := ?_) rfl rfl ?_ ?_
 rotate_left
 · intro w1 hSw; obtain ⟨hcS, hfS⟩ := bcell hSw; go_simp; (try with_reducible rfl)
 (try simp only [Act.put, pu1, pu2, pu3])
 refine tkI 13 35 (v := ?_) rfl rfl ?_ ?_
 rotate_left
 · intro w1 hSw; obtain ⟨hcS, hfS⟩ := bcell hSw; go_simp; (try with_reducible rfl)
 (try simp only [Act.put, pu1, pu2, pu3])
 refine wpAnyH_ready (rs := [14]) (by kernel_rfl) (by simp) ?_
 refine AllReadyH.cons rfl (fun K hK => ?_) AllReadyH.nil
 go_simp
 refine (l2Near ⟨kc, kx, k_y, kl, kg⟩ ⟨nc, nx, ny, nl, ng⟩ _ b1 b2 b4 b5).mono ?_
 rintro e wb ⟨rfl, hb⟩
 rw [HNR.out]
 refine hK.out _ _ (Below.and hq hb) (fun hq2 => ?_)
 clear hK K
 (try simp only [Act.put, pu1, pu2, pu3])
 refine tkI 15 37 (v := ?_) rfl rfl ?_ ?_
 rotate_left
 · intro w1 hSw; obtain ⟨hcS, hfS⟩ := bcell hSw; go_simp; (try with_reducible rfl)
 (try simp only [Act.put, pu1, pu2, pu3])
 refine tkI 16 38 (v := ?_) rfl rfl ?_ ?_
 rotate_left
 · intro w1 hSw; obtain ⟨hcS, hfS⟩ := bcell hSw; go_simp; (try with_reducible rfl)
 (try simp only [Act.put, pu1, pu2, pu3])
 refine wpAnyH_done (by kernel_rfl) ?_ _
 have BF := Lib.hid (Below.and BF.out hq2)
 have T0 := Lib.hid (T0.out.below hq2 l1)
 have T1 := Lib.hid (T1.out.below hq2 (by have := SZ.out; omega))
 clear y0 y1 y2 x0 x1 x2 x3 x4 l1 l2 c0 c1 c2 c3 c4 gl
 obtain ⟨y0, y1, y2⟩ := T0.out.cells
 obtain ⟨z0, z1, z2⟩ := T1.out.cells
 have zf := T1.out.frozen
 have l1 := T0.out.lt
 have BG : ∀ p0 p1 p2 : Value, Below w.heap.size w (((wb.setCell ⟨w.heap.size + 1 + 1, 0, none⟩ p0).setCell ⟨w.heap.size + 1 + 1, 1, none⟩ p1).setCell ⟨w.heap.size + 1 + 1, 2, none⟩ p2) := fun p0 p1 p2 => by
  iterate 3 (refine Below.setCell ?_ (by first | (simp; done) | (simp; omega)) _)
  exact BF.out
 go_wp2
 refine bodyPost_ret (v := .tuple #[.agg #[.slice (some ⟨g, 0, none⟩) E.length a, .slice B F.length b, .slice C L.length d], .int .i64 8]) (by simp [results, Try.results88, go_sem, y0, y1, y2, z0, z1, z2]) rfl ⟨rfl, BG _ _ _⟩
end Go.Proofs.Ytameldhdegcpoaa
