import Derived.Test.YtameldhdegcpoaaGl
namespace Go.Proofs.Ytameldhdegcpoaa
open Go.ChangeShapes Go.WideShapes Go.ChangeAt Go.RowKit
set_option linter.unusedVariables false
set_option linter.unusedSimpArgs false
set_option maxRecDepth 100000 in
set_option maxHeartbeats 8000000 in
theorem l2Drop (g : Nat) (a : Nat) (B : Option Addr) (b : Nat) (C : Option Addr) (d : Nat) (E : List Fig) (F L : List Int) (k j : Nat) (fc fx fy fl fg v : Int) (w : World) (hE : E.length ≤ 4) (hk : k < E.length) (hf : E[k]'hk = ⟨fc, fx, fy, fl, fg⟩) (b1 : 0 ≤ fx ∧ fx ≤ 3) (b2 : 0 ≤ fy ∧ fy ≤ 3) (b3 : 0 ≤ fg ∧ fg ≤ 20)
 (hF : F.length = 16) (hj : fy * 4 + fx = (j : Int)) (hjl : j < F.length) (hv : F[j]'hjl = v) (b4 : 0 ≤ v ∧ v ≤ 20) (hg : GmR w (some ⟨g, 0, none⟩) a B b C d E F L) :
 Calls Try.prog 116 #[gameV (some ⟨g, 0, none⟩) E.length a B F.length b C L.length d, .int .i64 (k : Int)] w fun e w' => ∃ A' a' B' b', e = .returned (gameV A' (E.take k ++ E.drop (k + 1)).length a' B' (F.set j (v + fg)).length b' C L.length d) ∧
  GmR w' A' a' B' b' C d (E.take k ++ E.drop (k + 1)) (F.set j (v + fg)) L ∧ (∀ x, A' = some ⟨x, 0, none⟩ → w.heap.size ≤ x) ∧ (∀ x, B' = some ⟨x, 0, none⟩ → w.heap.size ≤ x) ∧ Below w.heap.size w w' := by
 obtain ⟨I, hi, hz0, hz1, hz2⟩ := parts_of infoEnt'
 have I1 := Lib.hid hi
 have I2 := Lib.hid hz0
 have I3 := Lib.hid hz1
 have I4 := Lib.hid hz2
 clear hi hz0 hz1 hz2
 obtain ⟨J, hi, hz0, hz1, hz2⟩ := parts_of infoInt'
 have J1 := Lib.hid hi
 have J2 := Lib.hid hz0
 have J3 := Lib.hid hz1
 have J4 := Lib.hid hz2
 clear hi hz0 hz1 hz2
 have BW : Hid (Below w.heap.size w (((w.alloc (.cells #[.slice (some ⟨g, 0, none⟩) E.length a, .slice B F.length b, .slice C L.length d] 29)).alloc (.cells #[.slice none 0 0, .slice none 0 0, .slice none 0 0] 29)).alloc (.cells #[.int .i64 fc, .int .i64 fx, .int .i64 fy, .int .i64 fl, .int .i64 fg] 72))) := (below_alloc2 w _ _).alloc (by simp; omega) _
 have HSW : Hid ((((w.alloc (.cells #[.slice (some ⟨g, 0, none⟩) E.length a, .slice B F.length b, .slice C L.length d] 29)).alloc (.cells #[.slice none 0 0, .slice none 0 0, .slice none 0 0] 29)).alloc (.cells #[.int .i64 fc, .int .i64 fx, .int .i64 fy, .int .i64 fl, .int .i64 fg] 72)).heap.size = w.heap.size + 3) := by show _ = _; simp
 have K0 : Hid (Three (((w.alloc (.cells #[.slice (some ⟨g, 0, none⟩) E.length a, .slice B F.length b, .slice C L.length d] 29)).alloc (.cells #[.slice none 0 0, .slice none 0 0, .slice none 0 0] 29)).alloc (.cells #[.int .i64 fc, .int .i64 fx, .int .i64 fy, .int .i64 fl, .int .i64 fg] 72)) w.heap.size 29 (.slice (some ⟨g, 0, none⟩) E.length a) (.slice B F.length b) (.slice C L.length d)) := ((Three.new w).alloc _).alloc _
 have K1 : Hid (Three (((w.alloc (.cells #[.slice (some ⟨g, 0, none⟩) E.length a, .slice B F.length b, .slice C L.length d] 29)).alloc (.cells #[.slice none 0 0, .slice none 0 0, .slice none 0 0] 29)).alloc (.cells #[.int .i64 fc, .int .i64 fx, .int .i64 fy, .int .i64 fl, .int .i64 fg] 72)) (w.heap.size + 1) 29 (.slice none 0 0) (.slice none 0 0) (.slice none 0 0)) := by have := (Three.new (t := 29) (u0 := .slice none 0 0) (u1 := .slice none 0 0) (u2 := .slice none 0 0) (w.alloc (.cells #[.slice (some ⟨g, 0, none⟩) E.length a, .slice B F.length b, .slice C L.length d] 29))).alloc (.cells #[.int .i64 fc, .int .i64 fx, .int .i64 fy, .int .i64 fl, .int .i64 fg] 72); simpa [Hid] using this
 have K2 : Hid (Bkk (((w.alloc (.cells #[.slice (some ⟨g, 0, none⟩) E.length a, .slice B F.length b, .slice C L.length d] 29)).alloc (.cells #[.slice none 0 0, .slice none 0 0, .slice none 0 0] 29)).alloc (.cells #[.int .i64 fc, .int .i64 fx, .int .i64 fy, .int .i64 fl, .int .i64 fg] 72)) (w.heap.size + 1 + 1) 72 #[.int .i64 fc, .int .i64 fx, .int .i64 fy, .int .i64 fl, .int .i64 fg]) := by have := Bkk.new (t := 72) (cs := #[.int .i64 fc, .int .i64 fx, .int .i64 fy, .int .i64 fl, .int .i64 fg]) ((w.alloc (.cells #[.slice (some ⟨g, 0, none⟩) E.length a, .slice B F.length b, .slice C L.length d] 29)).alloc (.cells #[.slice none 0 0, .slice none 0 0, .slice none 0 0] 29)); simpa [Hid] using this
 have HG := Lib.hid (hg.below BW.out)
 have HG0 := Lib.hid hg
 have hca := hg.cA
 have HF := Lib.hid hf
 have q1 : IntKind.i64.wrap (fy * 4) = fy * 4 := IntWalk.i64_in _ (by omega)
 have q2 : IntKind.i64.wrap (fy * 4 + fx) = (j : Int) := by rw [hj]; exact IntWalk.i64_in _ (by omega)
 have q3 : IntKind.i64.wrap (v + fg) = v + fg := IntWalk.i64_in _ (by omega)
 have q4 : IntKind.i64.wrap ((k : Int) + 1) = (k : Int) + 1 := IntWalk.i64_in _ (by omega)
 have HV := Lib.hid hv
 have HFL := Lib.hid hF
 obtain ⟨g', hg', a0, a1, a2, a3, a4⟩ := (hg.below ((below_alloc2 w (.cells #[.slice (some ⟨g, 0, none⟩) E.length a, .slice B F.length b, .slice C L.length d] 29) (.cells #[.slice none 0 0, .slice none 0 0, .slice none 0 0] 29)))).rE k hk
 cases hg'
 rw [hf] at a0 a1 a2 a3 a4
 simp only at a0 a1 a2 a3 a4
 have i0 : (0 : Int) ≤ (k : Int) := by omega
 have i1 : (k : Int) < (E.length : Int) := by omega
 have gl := World.block_lt_of_cell? _ _ a0
 clear hg hf hv hj hF
 unfold gameV
 go_enter Try.func116, Try.ntmps116
 go_wp2_with (at_builtin; go_loud (refine list_app cI_len rfl _ _ 27 rfl (w.heap.size + 3) 3 J (.int .i64 0) 8 Try.underlying27 J1.out J2.out J3.out J4.out rfl (by decide) _ 0 [] rfl ?o1s5 _ _ F.length F ?m1s5 rfl ?r1s5 ?n1s5 (ints_one _) ?b1s5 ?c1s5 ?d1s5 ?_))
 try case o1s5 => (have := own_base (base' := w.heap.size + 3) (own_nil_new (((w.alloc (.cells #[.slice (some ⟨g, 0, none⟩) E.length a, .slice B F.length b, .slice C L.length d] 29)).alloc (.cells #[.slice none 0 0, .slice none 0 0, .slice none 0 0] 29)).alloc (.cells #[.int .i64 fc, .int .i64 fx, .int .i64 fy, .int .i64 fl, .int .i64 fg] 72)) 3 1 rfl) (by simp); simpa using this)
 try case m1s5 => (rfl)
 try case r1s5 => (exact (HG.out.rF.below ((Below.refl _ _).alloc (Nat.le_refl _) _)).rd)
 try case r1s5.inl => (exact (HG.out.rF.below ((Below.refl _ _).alloc (Nat.le_refl _) _)).rd)
 try case r1s5.inr => (exact (HG.out.rF.below ((Below.refl _ _).alloc (Nat.le_refl _) _)).rd)
 try case n1s5 => (exact nil_cap HG.out.nB)
 try case b1s5 => (unfold maxLen; have := HFL.out; omega)
 try case c1s5 => (have := HFL.out; omega)
 try case d1s5 => (first | omega | (simp; done) | (simp; omega))
 intro v1 w1 ho1 hg1 hp1
 obtain ⟨A1, c1, hv1, _⟩ := own_form ho1
 subst hv1
 have ho1' : w1.ownsRow (w.heap.size + 3) 3 1 (.slice A1 F.length c1) F.length (ints F) := by simpa [ints_flat] using ho1
 obtain ⟨q, rfl, hq1, hq2⟩ := own_some ho1' (by rw [HFL.out]; omega)
 have HB1 : Hid (Below (((w.alloc (.cells #[.slice (some ⟨g, 0, none⟩) E.length a, .slice B F.length b, .slice C L.length d] 29)).alloc (.cells #[.slice none 0 0, .slice none 0 0, .slice none 0 0] 29)).alloc (.cells #[.int .i64 fc, .int .i64 fx, .int .i64 fy, .int .i64 fl, .int .i64 fg] 72)).heap.size (((w.alloc (.cells #[.slice (some ⟨g, 0, none⟩) E.length a, .slice B F.length b, .slice C L.length d] 29)).alloc (.cells #[.slice none 0 0, .slice none 0 0, .slice none 0 0] 29)).alloc (.cells #[.int .i64 fc, .int .i64 fx, .int .i64 fy, .int .i64 fl, .int .i64 fg] 72)) w1) := Below.trans ((Below.refl (((w.alloc (.cells #[.slice (some ⟨g, 0, none⟩) E.length a, .slice B F.length b, .slice C L.length d] 29)).alloc (.cells #[.slice none 0 0, .slice none 0 0, .slice none 0 0] 29)).alloc (.cells #[.int .i64 fc, .int .i64 fx, .int .i64 fy, .int .i64 fl, .int .i64 fg] 72)).heap.size (((w.alloc (.cells #[.slice (some ⟨g, 0, none⟩) E.length a, .slice B F.length b, .slice C L.length d] 29)).alloc (.cells #[.slice none 0 0, .slice none 0 0, .slice none 0 0] 29)).alloc (.cells #[.int .i64 fc, .int .i64 fx, .int .i64 fy, .int .i64 fl, .int .i64 fg] 72))).alloc (Nat.le_refl _) (.cells #[] 3)) (Below.of_grown hg1 (by simp) (fun x hx => by simp [Value.ownBlock] at hx; simp; omega))
 have SZ1 := Lib.hid (show w.heap.size + 3 ≤ w1.heap.size by have := HB1.out.size; rw [HSW.out] at this; omega)
 have OF := Lib.hid ho1'
 have T0 := Lib.hid (K0.out.below HB1.out (by rw [HSW.out]; omega))
 have T1 := Lib.hid (K1.out.below HB1.out (by rw [HSW.out]; omega))
 have T2 := Lib.hid (K2.out.below HB1.out)
 clear ho1 hg1 hp1 a0 a1 a2 a3 a4 gl
 have TB := Lib.hid T0.out
 obtain ⟨y0, y1, y2⟩ := T0.out.cells
 have yf := T0.out.frozen
 have n1 : ¬ q = w.heap.size := by omega
 have n2 : ¬ w.heap.size = q := by omega
 have l1 : w.heap.size < w1.heap.size := by have := SZ1.out; omega
 go_wp2_with (fail)
 clear y0 y1 y2 yf ho1'
 have T0a := Lib.hid (T0.out.set1 (.slice (some ⟨q, 0, none⟩) F.length c1))
 have T1a := Lib.hid (T1.out.far (show w.heap.size + 1 ≠ w.heap.size by omega) (j := 1) (.slice (some ⟨q, 0, none⟩) F.length c1))
 have T2a := Lib.hid (T2.out.far (show w.heap.size + 1 + 1 ≠ w.heap.size by omega) 1 (.slice (some ⟨q, 0, none⟩) F.length c1))
 have OFa := Lib.hid (own_put OF.out (b := w.heap.size) (by omega) 1 (.slice (some ⟨q, 0, none⟩) F.length c1))
 have HBa := Lib.hid ((Below.and BW.out HB1.out).setCell (Nat.le_refl w.heap.size) (p := ⟨w.heap.size, 1, none⟩) (.slice (some ⟨q, 0, none⟩) F.length c1))
 have SZa : Hid ((w1.setCell ⟨w.heap.size, 1, none⟩ (.slice (some ⟨q, 0, none⟩) F.length c1)).heap.size = w1.heap.size) := by show _ = _; simp
 obtain ⟨WA, hW⟩ : ∃ X, X = w1.setCell ⟨w.heap.size, 1, none⟩ (.slice (some ⟨q, 0, none⟩) F.length c1) := ⟨_, rfl⟩
 rw [← hW] at T0a T1a T2a OFa HBa SZa ⊢
 clear hW T0 T1 T2 OF TB K0 K1 K2
 have xq : WA.cell? ⟨q, j, none⟩ = some (.int .i64 v) := by rw [OFa.out.cellAt j (by simp; omega)]; simp [hjl, HV.out]
 have ff := fun i => OFa.out.frozenAt i
 have m0 : (0 : Int) ≤ (j : Int) := by omega
 have m1 : (j : Int) < (F.length : Int) := by omega
 have c1x : WA.cell? ⟨w.heap.size, 1, none⟩ = some (.slice (some ⟨q, 0, none⟩) F.length c1) := T0a.out.cells.2.1
 have c4x : WA.cell? ⟨w.heap.size + 1 + 1, 4, none⟩ = some (.int .i64 fg) := T2a.out.cell 4
 have n3 : ¬ q = w.heap.size + 1 + 1 := by omega
 have n4 : ¬ w.heap.size + 1 + 1 = q := by omega
 refine wp_region_held_drew (S := (fun W => W.cell? ⟨w.heap.size, 1, none⟩ = some (.slice (some ⟨q, 0, none⟩) F.length c1) ∧ W.cell? ⟨w.heap.size + 1 + 1, 4, none⟩ = some (.int .i64 fg))) (by kernel_rfl) ⟨T0a.out.cells.2.1, T2a.out.cell 4⟩ (fun hS0 => ?_)
 refine tkI 0 24 (v := ?_) rfl rfl ?_ ?_
 rotate_left
 · intro w1 hSw; (try dsimp only at hSw); go_split_ands; go_simp; (try with_reducible rfl)
 (try simp only [Act.put, pu1, pu2, pu3])
 refine tkI 1 25 (v := ?_) rfl rfl ?_ ?_
 rotate_left
 · intro w1 hSw; (try dsimp only at hSw); go_split_ands; go_simp; (try with_reducible rfl)
 (try simp only [Act.put, pu1, pu2, pu3])
 refine tkI 2 26 (v := ?_) rfl rfl ?_ ?_
 rotate_left
 · intro w1 hSw; (try dsimp only at hSw); go_split_ands; go_simp; (try with_reducible rfl)
 (try simp only [Act.put, pu1, pu2, pu3])
 refine tkI 3 27 (v := ?_) rfl rfl ?_ ?_
 rotate_left
 · intro w1 hSw; (try dsimp only at hSw); go_split_ands; go_simp; (try with_reducible rfl)
 (try simp only [Act.put, pu1, pu2, pu3])
 refine tkI 4 28 (v := ?_) rfl rfl ?_ ?_
 rotate_left
 · intro w1 hSw; (try dsimp only at hSw); go_split_ands; go_simp; (try with_reducible rfl)
 (try simp only [Act.put, pu1, pu2, pu3])
 refine tkI 5 29 (v := ?_) rfl rfl ?_ ?_
 rotate_left
 · intro w1 hSw; (try dsimp only at hSw); go_split_ands; go_simp; (try with_reducible rfl)
 (try simp only [Act.put, pu1, pu2, pu3])
 refine tkI 6 30 (v := ?_) rfl rfl ?_ ?_
 rotate_left
 · intro w1 hSw; (try dsimp only at hSw); go_split_ands; go_simp; (try with_reducible rfl)
 (try simp only [Act.put, pu1, pu2, pu3])
 refine tkI 8 32 (v := ?_) rfl rfl ?_ ?_
 rotate_left
 · intro w1 hSw; (try dsimp only at hSw); go_split_ands; go_simp; (try with_reducible rfl)
 (try simp only [Act.put, pu1, pu2, pu3])
 refine tkI 9 33 (v := ?_) rfl rfl ?_ ?_
 rotate_left
 · intro w1 hSw; (try dsimp only at hSw); go_split_ands; go_simp; (try with_reducible rfl)
 (try simp only [Act.put, pu1, pu2, pu3])
 refine wpAnyH_ready (rs := [7]) (by kernel_rfl) (by simp) ?_
 refine AllReadyH.cons rfl (fun K hK => ?_) AllReadyH.nil
 go_simp
 refine hK.out _ _ hS0 (fun hS1 => ?_)
 clear hK K
 (try simp only [Act.put, pu1, pu2, pu3])
 refine tkI 10 34 (v := ?_) rfl rfl ?_ ?_
 rotate_left
 · intro w1 hSw; (try dsimp only at hSw); go_split_ands; go_simp; (try with_reducible rfl)
 (try simp only [Act.put, pu1, pu2, pu3])
 refine tkI 11 35 (v := ?_) rfl rfl ?_ ?_
 rotate_left
 · intro w1 hSw; (try dsimp only at hSw); go_split_ands; go_simp; (try with_reducible rfl)
 (try simp only [Act.put, pu1, pu2, pu3])
 refine wpAnyH_ready (rs := [12]) (by kernel_rfl) (by simp) ?_
 refine AllReadyH.cons rfl (fun K hK => ?_) AllReadyH.nil
 go_simp
 refine hK.out _ _ ⟨by go_simp, by go_simp⟩ (fun hS2 => ?_)
 clear hK K
 (try simp only [Act.put, pu1, pu2, pu3])
 refine wpAnyH_done (by kernel_rfl) ?_ _
 have T0b := Lib.hid (Three.drew (T0a.out.far n2 (j := j) (.int .i64 (v + fg))))
 have T1b := Lib.hid (Three.drew (T1a.out.far (show w.heap.size + 1 ≠ q by omega) (j := j) (.int .i64 (v + fg))))
 have OF2 : Hid ((WA.setCell ⟨q, j, none⟩ (.int .i64 (v + fg))).drew.ownsRow (w.heap.size + 3) 3 1 (.slice (some ⟨q, 0, none⟩) F.length c1) F.length (ints (F.set j (v + fg)))) := by
  have h := (own_set1 j (.int .i64 (v + fg)) (by simp; omega) OFa.out).1
  have e1 : (ints F).set j (.int .i64 (v + fg)) = ints (F.set j (v + fg)) := by simp [ints, List.map_set]
  rw [e1] at h
  exact h
 have HB2 := Lib.hid (HBa.out.setCell (show w.heap.size ≤ q by omega) (p := ⟨q, j, none⟩) (.int .i64 (v + fg))).drew
 have SZ2 : Hid (w.heap.size + 3 ≤ (WA.setCell ⟨q, j, none⟩ (.int .i64 (v + fg))).drew.heap.size) := by show _ ≤ (WA.setCell ⟨q, j, none⟩ (.int .i64 (v + fg))).heap.size; have := SZ1.out; have := SZa.out; simp; omega
 obtain ⟨W2, hW⟩ : ∃ X, X = (WA.setCell ⟨q, j, none⟩ (.int .i64 (v + fg))).drew := ⟨_, rfl⟩
 rw [← hW] at T0b T1b OF2 HB2 SZ2 ⊢
 clear hW T0a T1a T2a OFa HBa c1x c4x xq ff hS0 hS1 hS2 SZa HB1 SZ1 HG
 have RD2 : Hid (Rd 5 Fig.cells W2 (some ⟨g, 0, none⟩) E) := (HG0.out.below HB2.out).rE.rd
 obtain ⟨y0, _, _⟩ := T0b.out.cells
 have l1 : w.heap.size < W2.heap.size := by have := SZ2.out; omega
 by_cases hak : a = k + 1
 · have hak2 := hak
   go_wp2_with (at_builtin; go_loud (refine list_app Fig.len rfl _ _ 26 rfl (w.heap.size + 3) 72 I (.agg #[.int .i64 0, .int .i64 0, .int .i64 0, .int .i64 0, .int .i64 0]) 40 Try.underlying26 I1.out I2.out I3.out I4.out rfl (by decide) (.slice (some ⟨W2.heap.size, 0, none⟩) 0 0) 0 [] rfl ?o2s1 _ _ k (E.take k) ?m2s1 rfl ?r2s1 ?n2s1 (figs_one _) ?b2s1 ?c2s1 ?d2s1 ?_))
   try case o2s1 => (exact own_base (own_nil_new W2 72 5 rfl) (by have := SZ2.out; omega))
   try case m2s1 => (simp; omega)
   try case r2s1 => (first | exact Rd.take (Rd.below RD2.out ((Below.refl _ _).alloc (Nat.le_refl _) _)) k | exact Rd.take RD2.out k)
   try case r2s1.inl => (first | exact Rd.take (Rd.below RD2.out ((Below.refl _ _).alloc (Nat.le_refl _) _)) k | exact Rd.take RD2.out k)
   try case r2s1.inr => (first | exact Rd.take (Rd.below RD2.out ((Below.refl _ _).alloc (Nat.le_refl _) _)) k | exact Rd.take RD2.out k)
   try case n2s1 => (intro e; cases e)
   try case b2s1 => (unfold maxLen; omega)
   try case c2s1 => (omega)
   try case d2s1 => (have := SZ2.out; first | omega | (simp; omega))
   intro v2 w2 ho2 hg2 hp2
   obtain ⟨A3, c3, hv3, _⟩ := own_form ho2
   subst hv3
   have hp2' : (Value.slice A3 k c3).ownBlock = (Value.slice (some ⟨W2.heap.size, 0, none⟩) 0 0).ownBlock ∨ (Value.slice A3 k c3).ownBlock = some (W2.alloc (.cells #[] 72)).heap.size := by simpa using hp2
   have hge : ∀ x, (Value.slice (some ⟨W2.heap.size, 0, none⟩) 0 0).ownBlock = some x → W2.heap.size ≤ x := fun x hx => by simp [Value.ownBlock] at hx; omega
   have HB3 : Hid (Below w.heap.size w w2) := Below.trans (HB2.out.alloc HB2.out.size (.cells #[] 72)) (Below.of_grown hg2 (by have := SZ2.out; simp; omega) (fun x hx => by have := hge x hx; have := SZ2.out; omega))
   have SZ3 := Lib.hid (show w.heap.size + 3 ≤ w2.heap.size by have := hg2.size; have := SZ2.out; simp at *; omega)
   have OB3 : Hid (w2.ownsRow (w.heap.size + 3) 72 5 (.slice A3 k c3) k ((E.take k).flatMap Fig.cells)) := by simpa [Hid] using ho2
   have hlq := (OF2.out.lt q rfl).2
   have OF3 : Hid (w2.ownsRow (w.heap.size + 3) 3 1 (.slice (some ⟨q, 0, none⟩) F.length c1) F.length (ints (F.set j (v + fg)))) := World.ownsRow.kept (OF2.out.alloc (.cells #[] 72)) hg2 (.inr (fun e => by have := hge q (by simpa [Value.ownBlock] using e.symm); omega))
   have DQ : Hid (∀ x, (Value.slice A3 k c3).ownBlock = some x → (Value.slice (some ⟨q, 0, none⟩) F.length c1).ownBlock ≠ some x) := app_apart (u := .slice (some ⟨W2.heap.size, 0, none⟩) 0 0) (OF2.out.alloc (.cells #[] 72)) hp2' (new_apart OF2.out)
   have T03 := Lib.hid ((T0b.out.alloc (.cells #[] 72)).grown hg2 (fun e => by have := hge _ e.symm; have := SZ2.out; omega))
   have T13 := Lib.hid ((T1b.out.alloc (.cells #[] 72)).grown hg2 (fun e => by have := hge _ e.symm; have := SZ2.out; omega))
   have RB3 : Hid (Rd 5 Fig.cells w2 (some ⟨g, 0, none⟩) E) := (HG0.out.below HB3.out).rE.rd
   have CA := Lib.hid hca
   obtain ⟨u0, _, _⟩ := T03.out.cells
   clear ho2 hg2 hp2 hp2' hge hlq
   go_wp2_with (at_builtin; go_loud (refine list_app Fig.len rfl _ _ 26 rfl (w.heap.size + 3) 72 I (.agg #[.int .i64 0, .int .i64 0, .int .i64 0, .int .i64 0, .int .i64 0]) 40 Try.underlying26 I1.out I2.out I3.out I4.out rfl (by decide) (.slice A3 k c3) k ((E.take k).flatMap Fig.cells) rfl ?o3s2 _ _ (E.length - (k + 1)) (E.drop (k + 1)) ?m3s2 rfl ?r3s2 ?n3s2 (figs_one _) ?b3s2 ?c3s2 ?d3s2 ?_))
   try case o3s2 => (exact OB3.out)
   try case m3s2 => (simp)
   try case r3s2 => (first | exact Rd.from_ RB3.out CA.out (k + 1) | (simpa using Rd.drop RB3.out (k + 1)) | exact (fun i h => absurd h (by simp; omega)))
   try case r3s2.inl => (first | exact Rd.from_ RB3.out CA.out (k + 1) | (simpa using Rd.drop RB3.out (k + 1)) | exact (fun i h => absurd h (by simp; omega)))
   try case r3s2.inr => (first | exact Rd.from_ RB3.out CA.out (k + 1) | (simpa using Rd.drop RB3.out (k + 1)) | exact (fun i h => absurd h (by simp; omega)))
   try case n3s2 => (intro e; (first | (split at e <;> cases e) | cases e | (simp at e)))
   try case b3s2 => (unfold maxLen; omega)
   try case c3s2 => (omega)
   try case d3s2 => (have := SZ3.out; first | omega | (simp; omega))
   intro v3 w3 ho3 hg3 hp3
   have hn3 : k + (E.length - (k + 1)) = (E.take k ++ E.drop (k + 1)).length := by simp; omega
   have ho3' : w3.ownsRow (w.heap.size + 3) 72 5 v3 (E.take k ++ E.drop (k + 1)).length (figs (E.take k ++ E.drop (k + 1))) := by
    rw [← hn3]
    have : figs (E.take k ++ E.drop (k + 1)) = (E.take k).flatMap Fig.cells ++ (E.drop (k + 1)).flatMap Fig.cells := by simp [figs, List.flatMap_append]
    rw [this]
    simpa using ho3
   obtain ⟨N3, hN3⟩ : ∃ N3, N3 = (E.take k ++ E.drop (k + 1)).length := ⟨_, rfl⟩
   rw [← hN3] at ho3'
   have HN3 := Lib.hid hN3
   clear hN3 hn3
   obtain ⟨A4, c4, hv4, _⟩ := own_form ho3'
   subst hv4
   have hge : ∀ x, (Value.slice A3 k c3).ownBlock = some x → w.heap.size + 3 ≤ x := fun x hx => (own_block_ge OB3.out x hx).1
   have BF : Hid (Below w.heap.size w w3) := Below.trans HB3.out (Below.of_grown hg3 HB3.out.size (fun x hx => by have := hge x hx; omega))
   have OB4 := Lib.hid ho3'
   have OF4 := Lib.hid (app_keep OF3.out hg3 DQ.out)
   have T04 := Lib.hid (T03.out.grown hg3 (fun e => by have := hge _ e.symm; omega))
   have T14 := Lib.hid (T13.out.grown hg3 (fun e => by have := hge _ e.symm; omega))
   clear ho3 hg3 hp3 ho3' hge u0
   obtain ⟨y0, y1, y2⟩ := T04.out.cells
   obtain ⟨z0, z1, z2⟩ := T14.out.cells
   have yf := T04.out.frozen
   have zf := T14.out.frozen
   go_wp2
   refine bodyPost_ret (v := .agg #[.slice A4 N3 c4, .slice (some ⟨q, 0, none⟩) F.length c1, .slice C L.length d]) (by simp [results, Try.results116, go_sem, y0, y1, y2, z0, z1, z2]) rfl ?_
   have BFF : Below w.heap.size w ((((w3.setCell ⟨w.heap.size, 0, none⟩ (.slice A4 N3 c4)).setCell ⟨w.heap.size + 1, 0, none⟩ (.slice A4 N3 c4)).setCell ⟨w.heap.size + 1, 1, none⟩ (.slice (some ⟨q, 0, none⟩) F.length c1)).setCell ⟨w.heap.size + 1, 2, none⟩ (.slice C L.length d)) := by
    iterate 4 (refine Below.setCell ?_ (by first | (simp; done) | (simp; omega)) _)
    exact BF.out
   have OFF : ((((w3.setCell ⟨w.heap.size, 0, none⟩ (.slice A4 N3 c4)).setCell ⟨w.heap.size + 1, 0, none⟩ (.slice A4 N3 c4)).setCell ⟨w.heap.size + 1, 1, none⟩ (.slice (some ⟨q, 0, none⟩) F.length c1)).setCell ⟨w.heap.size + 1, 2, none⟩ (.slice C L.length d)).ownsRow (w.heap.size + 3) 72 5 (.slice A4 N3 c4) N3 (figs (E.take k ++ E.drop (k + 1))) := by
    iterate 4 (refine own_put ?_ (by omega) _ _)
    exact OB4.out
   have OGG : ((((w3.setCell ⟨w.heap.size, 0, none⟩ (.slice A4 N3 c4)).setCell ⟨w.heap.size + 1, 0, none⟩ (.slice A4 N3 c4)).setCell ⟨w.heap.size + 1, 1, none⟩ (.slice (some ⟨q, 0, none⟩) F.length c1)).setCell ⟨w.heap.size + 1, 2, none⟩ (.slice C L.length d)).ownsRow (w.heap.size + 3) 3 1 (.slice (some ⟨q, 0, none⟩) F.length c1) F.length (ints (F.set j (v + fg))) := by
    iterate 4 (refine own_put ?_ (by omega) _ _)
    exact OF4.out
   rw [← HN3.out, show (F.set j (v + fg)).length = F.length from List.length_set]
   exact ⟨A4, c4, some ⟨q, 0, none⟩, c1, rfl, ⟨RdF.of_own OFF, RdI.of_own OGG, RdI.below HG0.out.rL BFF, (by rw [← HN3.out]; exact (own_cap OFF).1), (by rw [List.length_set]; exact (own_cap OGG).1), HG0.out.cC, (own_cap OFF).2, (own_cap OGG).2, HG0.out.nC, (fun x hx => (own_at OFF x hx).2), (fun x hx => (own_at OGG x hx).2), (fun x hx => Nat.lt_of_lt_of_le (HG0.out.lC x hx) BFF.size)⟩, (fun x hx => by have := (own_at OFF x hx).1; omega), (fun x hx => by have := (own_at OGG x hx).1; omega), BFF⟩
 · have hak2 := hak
   go_wp2_with (at_builtin; go_loud (refine list_app Fig.len rfl _ _ 26 rfl (w.heap.size + 3) 72 I (.agg #[.int .i64 0, .int .i64 0, .int .i64 0, .int .i64 0, .int .i64 0]) 40 Try.underlying26 I1.out I2.out I3.out I4.out rfl (by decide) (.slice (some ⟨W2.heap.size, 0, none⟩) 0 0) 0 [] rfl ?o2s3 _ _ k (E.take k) ?m2s3 rfl ?r2s3 ?n2s3 (figs_one _) ?b2s3 ?c2s3 ?d2s3 ?_))
   try case o2s3 => (exact own_base (own_nil_new W2 72 5 rfl) (by have := SZ2.out; omega))
   try case m2s3 => (simp; omega)
   try case r2s3 => (first | exact Rd.take (Rd.below RD2.out ((Below.refl _ _).alloc (Nat.le_refl _) _)) k | exact Rd.take RD2.out k)
   try case r2s3.inl => (first | exact Rd.take (Rd.below RD2.out ((Below.refl _ _).alloc (Nat.le_refl _) _)) k | exact Rd.take RD2.out k)
   try case r2s3.inr => (first | exact Rd.take (Rd.below RD2.out ((Below.refl _ _).alloc (Nat.le_refl _) _)) k | exact Rd.take RD2.out k)
   try case n2s3 => (intro e; cases e)
   try case b2s3 => (unfold maxLen; omega)
   try case c2s3 => (omega)
   try case d2s3 => (have := SZ2.out; first | omega | (simp; omega))
   intro v2 w2 ho2 hg2 hp2
   obtain ⟨A3, c3, hv3, _⟩ := own_form ho2
   subst hv3
   have hp2' : (Value.slice A3 k c3).ownBlock = (Value.slice (some ⟨W2.heap.size, 0, none⟩) 0 0).ownBlock ∨ (Value.slice A3 k c3).ownBlock = some (W2.alloc (.cells #[] 72)).heap.size := by simpa using hp2
   have hge : ∀ x, (Value.slice (some ⟨W2.heap.size, 0, none⟩) 0 0).ownBlock = some x → W2.heap.size ≤ x := fun x hx => by simp [Value.ownBlock] at hx; omega
   have HB3 : Hid (Below w.heap.size w w2) := Below.trans (HB2.out.alloc HB2.out.size (.cells #[] 72)) (Below.of_grown hg2 (by have := SZ2.out; simp; omega) (fun x hx => by have := hge x hx; have := SZ2.out; omega))
   have SZ3 := Lib.hid (show w.heap.size + 3 ≤ w2.heap.size by have := hg2.size; have := SZ2.out; simp at *; omega)
   have OB3 : Hid (w2.ownsRow (w.heap.size + 3) 72 5 (.slice A3 k c3) k ((E.take k).flatMap Fig.cells)) := by simpa [Hid] using ho2
   have hlq := (OF2.out.lt q rfl).2
   have OF3 : Hid (w2.ownsRow (w.heap.size + 3) 3 1 (.slice (some ⟨q, 0, none⟩) F.length c1) F.length (ints (F.set j (v + fg)))) := World.ownsRow.kept (OF2.out.alloc (.cells #[] 72)) hg2 (.inr (fun e => by have := hge q (by simpa [Value.ownBlock] using e.symm); omega))
   have DQ : Hid (∀ x, (Value.slice A3 k c3).ownBlock = some x → (Value.slice (some ⟨q, 0, none⟩) F.length c1).ownBlock ≠ some x) := app_apart (u := .slice (some ⟨W2.heap.size, 0, none⟩) 0 0) (OF2.out.alloc (.cells #[] 72)) hp2' (new_apart OF2.out)
   have T03 := Lib.hid ((T0b.out.alloc (.cells #[] 72)).grown hg2 (fun e => by have := hge _ e.symm; have := SZ2.out; omega))
   have T13 := Lib.hid ((T1b.out.alloc (.cells #[] 72)).grown hg2 (fun e => by have := hge _ e.symm; have := SZ2.out; omega))
   have RB3 : Hid (Rd 5 Fig.cells w2 (some ⟨g, 0, none⟩) E) := (HG0.out.below HB3.out).rE.rd
   have CA := Lib.hid hca
   obtain ⟨u0, _, _⟩ := T03.out.cells
   clear ho2 hg2 hp2 hp2' hge hlq
   go_wp2_with (at_builtin; go_loud (refine list_app Fig.len rfl _ _ 26 rfl (w.heap.size + 3) 72 I (.agg #[.int .i64 0, .int .i64 0, .int .i64 0, .int .i64 0, .int .i64 0]) 40 Try.underlying26 I1.out I2.out I3.out I4.out rfl (by decide) (.slice A3 k c3) k ((E.take k).flatMap Fig.cells) rfl ?o3s4 _ _ (E.length - (k + 1)) (E.drop (k + 1)) ?m3s4 rfl ?r3s4 ?n3s4 (figs_one _) ?b3s4 ?c3s4 ?d3s4 ?_))
   try case o3s4 => (exact OB3.out)
   try case m3s4 => (simp)
   try case r3s4 => (first | exact Rd.from_ RB3.out CA.out (k + 1) | (simpa using Rd.drop RB3.out (k + 1)) | exact (fun i h => absurd h (by simp; omega)))
   try case r3s4.inl => (first | exact Rd.from_ RB3.out CA.out (k + 1) | (simpa using Rd.drop RB3.out (k + 1)) | exact (fun i h => absurd h (by simp; omega)))
   try case r3s4.inr => (first | exact Rd.from_ RB3.out CA.out (k + 1) | (simpa using Rd.drop RB3.out (k + 1)) | exact (fun i h => absurd h (by simp; omega)))
   try case n3s4 => (intro e; (first | (split at e <;> cases e) | cases e | (simp at e)))
   try case b3s4 => (unfold maxLen; omega)
   try case c3s4 => (omega)
   try case d3s4 => (have := SZ3.out; first | omega | (simp; omega))
   intro v3 w3 ho3 hg3 hp3
   have hn3 : k + (E.length - (k + 1)) = (E.take k ++ E.drop (k + 1)).length := by simp; omega
   have ho3' : w3.ownsRow (w.heap.size + 3) 72 5 v3 (E.take k ++ E.drop (k + 1)).length (figs (E.take k ++ E.drop (k + 1))) := by
    rw [← hn3]
    have : figs (E.take k ++ E.drop (k + 1)) = (E.take k).flatMap Fig.cells ++ (E.drop (k + 1)).flatMap Fig.cells := by simp [figs, List.flatMap_append]
    rw [this]
    simpa using ho3
   obtain ⟨N3, hN3⟩ : ∃ N3, N3 = (E.take k ++ E.drop (k + 1)).length := ⟨_, rfl⟩
   rw [← hN3] at ho3'
   have HN3 := Lib.hid hN3
   clear hN3 hn3
   obtain ⟨A4, c4, hv4, _⟩ := own_form ho3'
   subst hv4
   have hge : ∀ x, (Value.slice A3 k c3).ownBlock = some x → w.heap.size + 3 ≤ x := fun x hx => (own_block_ge OB3.out x hx).1
   have BF : Hid (Below w.heap.size w w3) := Below.trans HB3.out (Below.of_grown hg3 HB3.out.size (fun x hx => by have := hge x hx; omega))
   have OB4 := Lib.hid ho3'
   have OF4 := Lib.hid (app_keep OF3.out hg3 DQ.out)
   have T04 := Lib.hid (T03.out.grown hg3 (fun e => by have := hge _ e.symm; omega))
   have T14 := Lib.hid (T13.out.grown hg3 (fun e => by have := hge _ e.symm; omega))
   clear ho3 hg3 hp3 ho3' hge u0
   obtain ⟨y0, y1, y2⟩ := T04.out.cells
   obtain ⟨z0, z1, z2⟩ := T14.out.cells
   have yf := T04.out.frozen
   have zf := T14.out.frozen
   go_wp2
   refine bodyPost_ret (v := .agg #[.slice A4 N3 c4, .slice (some ⟨q, 0, none⟩) F.length c1, .slice C L.length d]) (by simp [results, Try.results116, go_sem, y0, y1, y2, z0, z1, z2]) rfl ?_
   have BFF : Below w.heap.size w ((((w3.setCell ⟨w.heap.size, 0, none⟩ (.slice A4 N3 c4)).setCell ⟨w.heap.size + 1, 0, none⟩ (.slice A4 N3 c4)).setCell ⟨w.heap.size + 1, 1, none⟩ (.slice (some ⟨q, 0, none⟩) F.length c1)).setCell ⟨w.heap.size + 1, 2, none⟩ (.slice C L.length d)) := by
    iterate 4 (refine Below.setCell ?_ (by first | (simp; done) | (simp; omega)) _)
    exact BF.out
   have OFF : ((((w3.setCell ⟨w.heap.size, 0, none⟩ (.slice A4 N3 c4)).setCell ⟨w.heap.size + 1, 0, none⟩ (.slice A4 N3 c4)).setCell ⟨w.heap.size + 1, 1, none⟩ (.slice (some ⟨q, 0, none⟩) F.length c1)).setCell ⟨w.heap.size + 1, 2, none⟩ (.slice C L.length d)).ownsRow (w.heap.size + 3) 72 5 (.slice A4 N3 c4) N3 (figs (E.take k ++ E.drop (k + 1))) := by
    iterate 4 (refine own_put ?_ (by omega) _ _)
    exact OB4.out
   have OGG : ((((w3.setCell ⟨w.heap.size, 0, none⟩ (.slice A4 N3 c4)).setCell ⟨w.heap.size + 1, 0, none⟩ (.slice A4 N3 c4)).setCell ⟨w.heap.size + 1, 1, none⟩ (.slice (some ⟨q, 0, none⟩) F.length c1)).setCell ⟨w.heap.size + 1, 2, none⟩ (.slice C L.length d)).ownsRow (w.heap.size + 3) 3 1 (.slice (some ⟨q, 0, none⟩) F.length c1) F.length (ints (F.set j (v + fg))) := by
    iterate 4 (refine own_put ?_ (by omega) _ _)
    exact OF4.out
   rw [← HN3.out, show (F.set j (v + fg)).length = F.length from List.length_set]
   exact ⟨A4, c4, some ⟨q, 0, none⟩, c1, rfl, ⟨RdF.of_own OFF, RdI.of_own OGG, RdI.below HG0.out.rL BFF, (by rw [← HN3.out]; exact (own_cap OFF).1), (by rw [List.length_set]; exact (own_cap OGG).1), HG0.out.cC, (own_cap OFF).2, (own_cap OGG).2, HG0.out.nC, (fun x hx => (own_at OFF x hx).2), (fun x hx => (own_at OGG x hx).2), (fun x hx => Nat.lt_of_lt_of_le (HG0.out.lC x hx) BFF.size)⟩, (fun x hx => by have := (own_at OFF x hx).1; omega), (fun x hx => by have := (own_at OGG x hx).1; omega), BFF⟩
end Go.Proofs.Ytameldhdegcpoaa
