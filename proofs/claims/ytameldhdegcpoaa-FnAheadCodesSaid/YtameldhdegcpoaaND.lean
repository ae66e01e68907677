import Derived.Test.YtameldhdegcpoaaGo
namespace Go.Proofs.Ytameldhdegcpoaa
open Go.ChangeShapes Go.WideShapes Go.ChangeAt Go.RowKit
set_option linter.unusedVariables false
set_option linter.unusedSimpArgs false
theorem own_other {w : World} {base : Nat} {e : TypeId} {size q n c : Nat} {xs : List Value} (h : w.ownsRow base e size (.slice (some ⟨q, 0, none⟩) n c) n xs) {p : Nat} (hp : q ≠ p) (o : Nat) (u : Value) : (w.setCell ⟨p, o, none⟩ u).ownsRow base e size (.slice (some ⟨q, 0, none⟩) n c) n xs :=
 h.kept (grownBy_set w p o u) (.inr (fun e => hp (Option.some.inj (by simpa [Value.ownBlock] using e))))
set_option maxRecDepth 100000 in
set_option maxHeartbeats 8000000 in
theorem actTake (g : Nat) (a : Nat) (B : Option Addr) (b : Nat) (C : Option Addr) (d : Nat) (E : List Fig) (F L : List Int) (k : Nat) (rc rn rx ry kc kx k_y kl kg : Int) (w : World) (hE : E.length ≤ 4) (hk : k < E.length) (hfk : E[k]'hk = ⟨kc, kx, k_y, kl, kg⟩) (b1 : 0 ≤ kx ∧ kx ≤ 3) (b2 : 0 ≤ k_y ∧ k_y ≤ 3) (b3 : 0 ≤ kg ∧ kg ≤ 20) (j : Nat) (v : Int) (hF : F.length = 16) (hj : k_y * 4 + kx = (j : Int)) (hjl : j < F.length) (hv : F[j]'hjl = v) (b5 : 0 ≤ v ∧ v ≤ 20) (ho : v ≠ 0) (hg : GmR w (some ⟨g, 0, none⟩) a B b C d E F L) :
 Calls Try.prog 88 #[gameV (some ⟨g, 0, none⟩) E.length a B F.length b C L.length d, .int .i64 (k : Int), .agg #[.int .i64 rc, .int .i64 rn, .int .i64 3, .int .i64 rx, .int .i64 ry]] w fun e w' => ∃ A' a' B' b', e = .returned (.tuple #[gameV A' (E.set k ⟨kc, kx, k_y, kl, kg + 1⟩).length a' B' (F.set j (v - 1)).length b' C L.length d, .int .i64 0]) ∧
  GmR w' A' a' B' b' C d (E.set k ⟨kc, kx, k_y, kl, kg + 1⟩) (F.set j (v - 1)) L ∧ (∀ x, A' = some ⟨x, 0, none⟩ → w.heap.size ≤ x) ∧ (∀ x, B' = some ⟨x, 0, none⟩ → w.heap.size ≤ x) ∧ Below w.heap.size w w' := by
 obtain ⟨I, hi, hz0, hz1, hz2⟩ := parts_of infoEnt'
 have I1 := Lib.hid hi
 have I2 := Lib.hid hz0
 have I3 := Lib.hid hz1
 have I4 := Lib.hid hz2
 clear hi hz0 hz1 hz2
 obtain ⟨J, hi, hz0, hz1, hz2⟩ := parts_of infoInt'
 have J1 := Lib.hid hi
 have J2 := Lib.hid hz0
 have J3 := Lib.hid hz1
 have J4 := Lib.hid hz2
 clear hi hz0 hz1 hz2
 have BW : Hid (Below w.heap.size w ((((w.alloc (.cells #[.slice (some ⟨g, 0, none⟩) E.length a, .slice B F.length b, .slice C L.length d] 29)).alloc (.cells #[.int .i64 rc, .int .i64 rn, .int .i64 3, .int .i64 rx, .int .i64 ry] 49)).alloc (.cells #[.slice none 0 0, .slice none 0 0, .slice none 0 0] 29)).alloc (.cells #[.int .i64 kc, .int .i64 kx, .int .i64 k_y, .int .i64 kl, .int .i64 kg] 72))) := (((below_alloc2 w _ _).alloc (by simp; omega) _).alloc (by simp; omega) _)
 have HSW : Hid (((((w.alloc (.cells #[.slice (some ⟨g, 0, none⟩) E.length a, .slice B F.length b, .slice C L.length d] 29)).alloc (.cells #[.int .i64 rc, .int .i64 rn, .int .i64 3, .int .i64 rx, .int .i64 ry] 49)).alloc (.cells #[.slice none 0 0, .slice none 0 0, .slice none 0 0] 29)).alloc (.cells #[.int .i64 kc, .int .i64 kx, .int .i64 k_y, .int .i64 kl, .int .i64 kg] 72)).heap.size = w.heap.size + 4) := by show _ = _; simp
 have K0 : Hid (Three ((((w.alloc (.cells #[.slice (some ⟨g, 0, none⟩) E.length a, .slice B F.length b, .slice C L.length d] 29)).alloc (.cells #[.int .i64 rc, .int .i64 rn, .int .i64 3, .int .i64 rx, .int .i64 ry] 49)).alloc (.cells #[.slice none 0 0, .slice none 0 0, .slice none 0 0] 29)).alloc (.cells #[.int .i64 kc, .int .i64 kx, .int .i64 k_y, .int .i64 kl, .int .i64 kg] 72)) w.heap.size 29 (.slice (some ⟨g, 0, none⟩) E.length a) (.slice B F.length b) (.slice C L.length d)) := (((Three.new w).alloc _).alloc _).alloc _
 have KR : Hid (Bkk ((((w.alloc (.cells #[.slice (some ⟨g, 0, none⟩) E.length a, .slice B F.length b, .slice C L.length d] 29)).alloc (.cells #[.int .i64 rc, .int .i64 rn, .int .i64 3, .int .i64 rx, .int .i64 ry] 49)).alloc (.cells #[.slice none 0 0, .slice none 0 0, .slice none 0 0] 29)).alloc (.cells #[.int .i64 kc, .int .i64 kx, .int .i64 k_y, .int .i64 kl, .int .i64 kg] 72)) (w.heap.size + 1) 49 #[.int .i64 rc, .int .i64 rn, .int .i64 3, .int .i64 rx, .int .i64 ry]) := by have := ((Bkk.new (t := 49) (cs := #[.int .i64 rc, .int .i64 rn, .int .i64 3, .int .i64 rx, .int .i64 ry]) (w.alloc (.cells #[.slice (some ⟨g, 0, none⟩) E.length a, .slice B F.length b, .slice C L.length d] 29))).alloc (.cells #[.slice none 0 0, .slice none 0 0, .slice none 0 0] 29)).alloc (.cells #[.int .i64 kc, .int .i64 kx, .int .i64 k_y, .int .i64 kl, .int .i64 kg] 72); simpa [Hid] using this
 have K1 : Hid (Three ((((w.alloc (.cells #[.slice (some ⟨g, 0, none⟩) E.length a, .slice B F.length b, .slice C L.length d] 29)).alloc (.cells #[.int .i64 rc, .int .i64 rn, .int .i64 3, .int .i64 rx, .int .i64 ry] 49)).alloc (.cells #[.slice none 0 0, .slice none 0 0, .slice none 0 0] 29)).alloc (.cells #[.int .i64 kc, .int .i64 kx, .int .i64 k_y, .int .i64 kl, .int .i64 kg] 72)) (w.heap.size + 1 + 1) 29 (.slice none 0 0) (.slice none 0 0) (.slice none 0 0)) := by have := (Three.new (t := 29) (u0 := .slice none 0 0) (u1 := .slice none 0 0) (u2 := .slice none 0 0) ((w.alloc (.cells #[.slice (some ⟨g, 0, none⟩) E.length a, .slice B F.length b, .slice C L.length d] 29)).alloc (.cells #[.int .i64 rc, .int .i64 rn, .int .i64 3, .int .i64 rx, .int .i64 ry] 49))).alloc (.cells #[.int .i64 kc, .int .i64 kx, .int .i64 k_y, .int .i64 kl, .int .i64 kg] 72); simpa [Hid] using this
 have KE : Hid (Bkk ((((w.alloc (.cells #[.slice (some ⟨g, 0, none⟩) E.length a, .slice B F.length b, .slice C L.length d] 29)).alloc (.cells #[.int .i64 rc, .int .i64 rn, .int .i64 3, .int .i64 rx, .int .i64 ry] 49)).alloc (.cells #[.slice none 0 0, .slice none 0 0, .slice none 0 0] 29)).alloc (.cells #[.int .i64 kc, .int .i64 kx, .int .i64 k_y, .int .i64 kl, .int .i64 kg] 72)) (w.heap.size + 1 + 1 + 1) 72 #[.int .i64 kc, .int .i64 kx, .int .i64 k_y, .int .i64 kl, .int .i64 kg]) := by have := Bkk.new (t := 72) (cs := #[.int .i64 kc, .int .i64 kx, .int .i64 k_y, .int .i64 kl, .int .i64 kg]) (((w.alloc (.cells #[.slice (some ⟨g, 0, none⟩) E.length a, .slice B F.length b, .slice C L.length d] 29)).alloc (.cells #[.int .i64 rc, .int .i64 rn, .int .i64 3, .int .i64 rx, .int .i64 ry] 49)).alloc (.cells #[.slice none 0 0, .slice none 0 0, .slice none 0 0] 29)); simpa [Hid] using this
 have HG0 := Lib.hid hg
 obtain ⟨g', hg', a0, a1, a2, a3, a4⟩ := (hg.below ((below_alloc2 w (.cells #[.slice (some ⟨g, 0, none⟩) E.length a, .slice B F.length b, .slice C L.length d] 29) (.cells #[.int .i64 rc, .int .i64 rn, .int .i64 3, .int .i64 rx, .int .i64 ry] 49)).alloc (by simp; omega) (.cells #[.slice none 0 0, .slice none 0 0, .slice none 0 0] 29))).rE k hk
 cases hg'
 rw [hfk] at a0 a1 a2 a3 a4
 simp only at a0 a1 a2 a3 a4
 have gl : g < w.heap.size + 1 + 1 + 1 := by have := World.block_lt_of_cell? _ _ a0; simpa using this
 have i0 : (0 : Int) ≤ (k : Int) := by omega
 have i1 : (k : Int) < (E.length : Int) := by omega
 have HFK := Lib.hid hfk
 have q1 : IntKind.i64.wrap (k_y * 4) = k_y * 4 := IntWalk.i64_in _ (by omega)
 have q2 : IntKind.i64.wrap (k_y * 4 + kx) = (j : Int) := by rw [hj]; exact IntWalk.i64_in _ (by omega)
 obtain ⟨qb, rfl, xb⟩ := (hg.below BW.out).rF j hjl
 rw [hv] at xb
 have ql : qb < w.heap.size := HG0.out.lB qb rfl
 have m0 : (0 : Int) ≤ (j : Int) := by omega
 have m1 : (j : Int) < (F.length : Int) := by omega
 have HFL := Lib.hid hF
 have HV := Lib.hid hv
 clear hF hj hv
 have e3 : (v == 0) = false := by simp [ho]
 have q3 : IntKind.i64.wrap (v - 1) = v - 1 := IntWalk.i64_in _ (by omega)
 have q4 : IntKind.i64.wrap (kg + 1) = kg + 1 := IntWalk.i64_in _ (by omega)
 have HGq := Lib.hid (hg.below BW.out)
 clear hg hfk
 unfold gameV
 go_enter Try.func88, Try.ntmps88
 go_wp2_with (at_builtin; go_loud (refine list_app cI_len rfl _ _ 27 rfl (w.heap.size + 4) 3 J (.int .i64 0) 8 Try.underlying27 J1.out J2.out J3.out J4.out rfl (by decide) (.slice (some ⟨w.heap.size + 1 + 1 + 1 + 1, 0, none⟩) 0 0) 0 [] rfl ?o1s1 _ _ F.length F ?m1s1 rfl ?r1s1 ?n1s1 (ints_one _) ?b1s1 ?c1s1 ?d1s1 ?_))
 try case o1s1 => (have := own_base (base' := w.heap.size + 4) (own_nil_new ((((w.alloc (.cells #[.slice (some ⟨g, 0, none⟩) E.length a, .slice (some ⟨qb, 0, none⟩) F.length b, .slice C L.length d] 29)).alloc (.cells #[.int .i64 rc, .int .i64 rn, .int .i64 3, .int .i64 rx, .int .i64 ry] 49)).alloc (.cells #[.slice none 0 0, .slice none 0 0, .slice none 0 0] 29)).alloc (.cells #[.int .i64 kc, .int .i64 kx, .int .i64 k_y, .int .i64 kl, .int .i64 kg] 72)) 3 1 rfl) (by simp); simpa using this)
 try case m1s1 => (rfl)
 try case r1s1 => (exact (HGq.out.rF.below ((Below.refl _ _).alloc (Nat.le_refl _) _)).rd)
 try case r1s1.inl => (exact (HGq.out.rF.below ((Below.refl _ _).alloc (Nat.le_refl _) _)).rd)
 try case r1s1.inr => (exact (HGq.out.rF.below ((Below.refl _ _).alloc (Nat.le_refl _) _)).rd)
 try case n1s1 => (intro e; cases e)
 try case b1s1 => (unfold maxLen; have := HFL.out; omega)
 try case c1s1 => (have := HFL.out; omega)
 try case d1s1 => (first | omega | (simp; done) | (simp; omega))
 intro v1 w1 ho1 hg1 hp1
 clear a0 a1 a2 a3 a4 gl xb q1 q2 e3
 obtain ⟨A1, c1, hv1, _⟩ := own_form ho1
 subst hv1
 have ho1' : w1.ownsRow (w.heap.size + 4) 3 1 (.slice A1 F.length c1) F.length (ints F) := by simpa [ints_flat] using ho1
 obtain ⟨q, rfl, hq1, hq2⟩ := own_some ho1' (by rw [HFL.out]; omega)
 have hge : ∀ x, (Value.slice (some ⟨w.heap.size + 1 + 1 + 1 + 1, 0, none⟩) 0 0).ownBlock = some x → w.heap.size + 4 ≤ x := fun x hx => by simp [Value.ownBlock] at hx; omega
 have BF := Lib.hid (Below.trans (BW.out.alloc BW.out.size (.cells #[] 3)) (Below.of_grown hg1 (by simp; omega) (fun x hx => by have := hge x hx; omega)))
 have SZ := Lib.hid (show w.heap.size + 4 ≤ w1.heap.size by have := hg1.size; simp at this; omega)
 have T0 := Lib.hid ((K0.out.alloc (.cells #[] 3)).grown hg1 (fun e => by have := hge _ e.symm; omega))
 have T1 := Lib.hid ((K1.out.alloc (.cells #[] 3)).grown hg1 (fun e => by have := hge _ e.symm; omega))
 have TE : Hid (Bkk w1 (w.heap.size + 1 + 1 + 1) 72 #[.int .i64 kc, .int .i64 kx, .int .i64 k_y, .int .i64 kl, .int .i64 kg]) := (hg1.block _ (by simp) (fun e => by have := hge _ e.symm; omega)).trans (KE.out.alloc (.cells #[] 3))
 have OF := Lib.hid ho1'
 clear ho1 hg1 hp1 hge ho1' K0 K1 KE KR BW HGq HSW
 obtain ⟨y0, y1, y2⟩ := T0.out.cells
 have yf := T0.out.frozen
 have n1 : ¬ q = w.heap.size := by omega
 have n2 : ¬ w.heap.size = q := by omega
 have l1 : w.heap.size < w1.heap.size := by have := SZ.out; omega
 go_wp2_with (fail)
 clear y0 y1 y2 yf l1
 have T0a := Lib.hid (T0.out.set1 (.slice (some ⟨q, 0, none⟩) F.length c1))
 have T1a := Lib.hid (T1.out.far (show w.heap.size + 1 + 1 ≠ w.heap.size by omega) (j := 1) (.slice (some ⟨q, 0, none⟩) F.length c1))
 have TEa := Lib.hid (TE.out.far (show w.heap.size + 1 + 1 + 1 ≠ w.heap.size by omega) 1 (.slice (some ⟨q, 0, none⟩) F.length c1))
 have OFa := Lib.hid (own_put OF.out (b := w.heap.size) (by omega) 1 (.slice (some ⟨q, 0, none⟩) F.length c1))
 have HBa := Lib.hid (BF.out.setCell (Nat.le_refl w.heap.size) (p := ⟨w.heap.size, 1, none⟩) (.slice (some ⟨q, 0, none⟩) F.length c1))
 have SZa : Hid (w.heap.size + 4 ≤ (w1.setCell ⟨w.heap.size, 1, none⟩ (.slice (some ⟨q, 0, none⟩) F.length c1)).heap.size) := by show _ ≤ _; have := SZ.out; simp; omega
 obtain ⟨WA, hW⟩ : ∃ X, X = w1.setCell ⟨w.heap.size, 1, none⟩ (.slice (some ⟨q, 0, none⟩) F.length c1) := ⟨_, rfl⟩
 rw [← hW] at T0a T1a TEa OFa HBa SZa ⊢
 clear hW T0 T1 TE OF BF SZ
 have xq : WA.cell? ⟨q, j, none⟩ = some (.int .i64 v) := by rw [OFa.out.cellAt j (by simp; omega)]; simp [hjl, HV.out]
 have ff := fun i => OFa.out.frozenAt i
 have c1x : WA.cell? ⟨w.heap.size, 1, none⟩ = some (.slice (some ⟨q, 0, none⟩) F.length c1) := T0a.out.cells.2.1
 refine wp_region_held_drew (S := (fun W => W.cell? ⟨w.heap.size, 1, none⟩ = some (.slice (some ⟨q, 0, none⟩) F.length c1))) (by kernel_rfl) c1x (fun hS0 => ?_)
 refine tkI 0 122 (v := ?_) rfl rfl ?_ ?_
 rotate_left
 · intro w1 hSw; go_simp; (try with_reducible rfl)
 (try simp only [Act.put, pu1, pu2, pu3])
 refine tkI 1 123 (v := ?_) rfl rfl ?_ ?_
 rotate_left
 · intro w1 hSw; go_simp; (try with_reducible rfl)
 (try simp only [Act.put, pu1, pu2, pu3])
 refine tkI 2 124 (v := ?_) rfl rfl ?_ ?_
 rotate_left
 · intro w1 hSw; go_simp; (try with_reducible rfl)
 (try simp only [Act.put, pu1, pu2, pu3])
 refine tkI 3 125 (v := ?_) rfl rfl ?_ ?_
 rotate_left
 · intro w1 hSw; go_simp; (try with_reducible rfl)
 (try simp only [Act.put, pu1, pu2, pu3])
 refine tkI 4 126 (v := ?_) rfl rfl ?_ ?_
 rotate_left
 · intro w1 hSw; go_simp; (try with_reducible rfl)
 (try simp only [Act.put, pu1, pu2, pu3])
 refine tkI 5 127 (v := ?_) rfl rfl ?_ ?_
 rotate_left
 · intro w1 hSw; go_simp; (try with_reducible rfl)
 (try simp only [Act.put, pu1, pu2, pu3])
 refine tkI 6 128 (v := ?_) rfl rfl ?_ ?_
 rotate_left
 · intro w1 hSw; go_simp; (try with_reducible rfl)
 (try simp only [Act.put, pu1, pu2, pu3])
 refine wpAnyH_ready (rs := [7]) (by kernel_rfl) (by simp) ?_
 refine AllReadyH.cons rfl (fun K hK => ?_) AllReadyH.nil
 go_simp
 refine hK.out _ _ hS0 (fun hS1 => ?_)
 clear hK K
 (try simp only [Act.put, pu1, pu2, pu3])
 refine tkI 8 130 (v := ?_) rfl rfl ?_ ?_
 rotate_left
 · intro w1 hSw; go_simp; (try with_reducible rfl)
 (try simp only [Act.put, pu1, pu2, pu3])
 refine tkI 9 131 (v := ?_) rfl rfl ?_ ?_
 rotate_left
 · intro w1 hSw; go_simp; (try with_reducible rfl)
 (try simp only [Act.put, pu1, pu2, pu3])
 refine wpAnyH_ready (rs := [10]) (by kernel_rfl) (by simp) ?_
 refine AllReadyH.cons rfl (fun K hK => ?_) AllReadyH.nil
 go_simp
 refine hK.out _ _ (by go_simp) (fun hS2 => ?_)
 clear hK K
 (try simp only [Act.put, pu1, pu2, pu3])
 refine wpAnyH_done (by kernel_rfl) ?_ _
 have n3 : ¬ q = w.heap.size + 1 + 1 + 1 := by omega
 have n4 : ¬ w.heap.size + 1 + 1 + 1 = q := by omega
 have T0b := Lib.hid (Three.drew (T0a.out.far n2 (j := j) (.int .i64 (v - 1))))
 have T1b := Lib.hid (Three.drew (T1a.out.far (show w.heap.size + 1 + 1 ≠ q by omega) (j := j) (.int .i64 (v - 1))))
 have TEb : Hid (Bkk (WA.setCell ⟨q, j, none⟩ (.int .i64 (v - 1))).drew (w.heap.size + 1 + 1 + 1) 72 #[.int .i64 kc, .int .i64 kx, .int .i64 k_y, .int .i64 kl, .int .i64 kg]) := TEa.out.far n4 j (.int .i64 (v - 1))
 have OF2 : Hid ((WA.setCell ⟨q, j, none⟩ (.int .i64 (v - 1))).drew.ownsRow (w.heap.size + 4) 3 1 (.slice (some ⟨q, 0, none⟩) F.length c1) F.length (ints (F.set j (v - 1)))) := by
  have h := (own_set1 j (.int .i64 (v - 1)) (by simp; omega) OFa.out).1
  have e1 : (ints F).set j (.int .i64 (v - 1)) = ints (F.set j (v - 1)) := by simp [ints, List.map_set]
  rw [e1] at h
  exact h
 have HB2 := Lib.hid (HBa.out.setCell (show w.heap.size ≤ q by omega) (p := ⟨q, j, none⟩) (.int .i64 (v - 1))).drew
 have SZ2 : Hid (w.heap.size + 4 ≤ (WA.setCell ⟨q, j, none⟩ (.int .i64 (v - 1))).drew.heap.size) := by show _ ≤ (WA.setCell ⟨q, j, none⟩ (.int .i64 (v - 1))).heap.size; have := SZa.out; simp; omega
 obtain ⟨W2, hW⟩ : ∃ X, X = (WA.setCell ⟨q, j, none⟩ (.int .i64 (v - 1))).drew := ⟨_, rfl⟩
 rw [← hW] at T0b T1b TEb OF2 HB2 SZ2 ⊢
 clear hW T0a T1a TEa OFa HBa c1x xq ff hS0 hS1 hS2 SZa
 have x0 : W2.cell? ⟨w.heap.size + 1 + 1 + 1, 0, none⟩ = some (.int .i64 kc) := TEb.out.cell 0
 have x1 : W2.cell? ⟨w.heap.size + 1 + 1 + 1, 1, none⟩ = some (.int .i64 kx) := TEb.out.cell 1
 have x2 : W2.cell? ⟨w.heap.size + 1 + 1 + 1, 2, none⟩ = some (.int .i64 k_y) := TEb.out.cell 2
 have x3 : W2.cell? ⟨w.heap.size + 1 + 1 + 1, 3, none⟩ = some (.int .i64 kl) := TEb.out.cell 3
 have x4 : W2.cell? ⟨w.heap.size + 1 + 1 + 1, 4, none⟩ = some (.int .i64 kg) := TEb.out.cell 4
 have xf := TEb.out.frozen
 obtain ⟨y0, _, _⟩ := T0b.out.cells
 have l1 : w.heap.size < W2.heap.size := by have := SZ2.out; omega
 have T0e := Lib.hid (T0b.out.far (show w.heap.size ≠ w.heap.size + 1 + 1 + 1 by omega) (j := 4) (.int .i64 (kg + 1)))
 have T1e := Lib.hid (T1b.out.far (show w.heap.size + 1 + 1 ≠ w.heap.size + 1 + 1 + 1 by omega) (j := 4) (.int .i64 (kg + 1)))
 have TEe : Hid (Bkk (W2.setCell ⟨w.heap.size + 1 + 1 + 1, 4, none⟩ (.int .i64 (kg + 1))) (w.heap.size + 1 + 1 + 1) 72 #[.int .i64 kc, .int .i64 kx, .int .i64 k_y, .int .i64 kl, .int .i64 (kg + 1)]) := TEb.out.set 4 (.int .i64 (kg + 1))
 have OFe := Lib.hid (own_put OF2.out (b := w.heap.size + 1 + 1 + 1) (by omega) 4 (.int .i64 (kg + 1)))
 have HBe := Lib.hid (HB2.out.setCell (show w.heap.size ≤ w.heap.size + 1 + 1 + 1 by omega) (p := ⟨w.heap.size + 1 + 1 + 1, 4, none⟩) (.int .i64 (kg + 1)))
 have RDe : Hid (Rd 5 Fig.cells (W2.setCell ⟨w.heap.size + 1 + 1 + 1, 4, none⟩ (.int .i64 (kg + 1))) (some ⟨g, 0, none⟩) E) := (HG0.out.below HBe.out).rE.rd
 go_wp2_with (at_builtin; go_loud (refine list_app Fig.len rfl _ _ 26 rfl (w.heap.size + 4) 72 I (.agg #[.int .i64 0, .int .i64 0, .int .i64 0, .int .i64 0, .int .i64 0]) 40 Try.underlying26 I1.out I2.out I3.out I4.out rfl (by decide) (.slice (some ⟨W2.heap.size, 0, none⟩) 0 0) 0 [] rfl ?o2s2 _ _ E.length E ?m2s2 rfl ?r2s2 ?n2s2 (figs_one _) ?b2s2 ?c2s2 ?d2s2 ?_))
 try case o2s2 => (have := own_base (base' := w.heap.size + 4) (own_nil_new (W2.setCell ⟨w.heap.size + 1 + 1 + 1, 4, none⟩ (.int .i64 (kg + 1))) 72 5 rfl) (by have := SZ2.out; simp; omega); simpa using this)
 try case m2s2 => (rfl)
 try case r2s2 => (exact Rd.below RDe.out ((Below.refl _ _).alloc (Nat.le_refl _) _))
 try case r2s2.inl => (exact Rd.below RDe.out ((Below.refl _ _).alloc (Nat.le_refl _) _))
 try case r2s2.inr => (exact Rd.below RDe.out ((Below.refl _ _).alloc (Nat.le_refl _) _))
 try case n2s2 => (intro e; cases e)
 try case b2s2 => (unfold maxLen; omega)
 try case c2s2 => (omega)
 try case d2s2 => (have := SZ2.out; first | omega | (simp; omega))
 intro v2 w2 ho2 hg2 hp2
 obtain ⟨A2, c2, hv2, _⟩ := own_form ho2
 subst hv2
 have ho2' : w2.ownsRow (w.heap.size + 4) 72 5 (.slice A2 E.length c2) E.length (figs E) := by simpa [figs] using ho2
 obtain ⟨q2, rfl, hq21, hq22⟩ := own_some ho2' (by omega)
 have hge : ∀ x, (Value.slice (some ⟨W2.heap.size, 0, none⟩) 0 0).ownBlock = some x → W2.heap.size ≤ x := fun x hx => by simp [Value.ownBlock] at hx; omega
 have hs2 : (W2.setCell ⟨w.heap.size + 1 + 1 + 1, 4, none⟩ (.int .i64 (kg + 1))).heap.size = W2.heap.size := by simp
 have hlq := (OF2.out.lt q rfl).2
 have hqq : q ≠ q2 := by
  rcases hp2 with h | h
  · have := hge q2 (by rw [← h]; rfl); omega
  · simp [Value.ownBlock] at h; omega
 have BF := Lib.hid (Below.trans (HBe.out.alloc HBe.out.size (.cells #[] 72)) (Below.of_grown hg2 (by have := SZ2.out; simp; omega) (fun x hx => by have := hge x hx; have := SZ2.out; omega)))
 have SZ := Lib.hid (show w.heap.size + 4 ≤ w2.heap.size by have := hg2.size; have := SZ2.out; simp at *; omega)
 have T0 := Lib.hid ((T0e.out.alloc (.cells #[] 72)).grown hg2 (fun e => by have := hge _ e.symm; have := SZ2.out; omega))
 have T1 := Lib.hid ((T1e.out.alloc (.cells #[] 72)).grown hg2 (fun e => by have := hge _ e.symm; have := SZ2.out; omega))
 have TE : Hid (Bkk w2 (w.heap.size + 1 + 1 + 1) 72 #[.int .i64 kc, .int .i64 kx, .int .i64 k_y, .int .i64 kl, .int .i64 (kg + 1)]) := (hg2.block _ (by have := SZ2.out; simp; omega) (fun e => by have := hge _ e.symm; have := SZ2.out; omega)).trans (TEe.out.alloc (.cells #[] 72))
 have OF := Lib.hid ho2'
 have OFF : Hid (w2.ownsRow (w.heap.size + 4) 3 1 (.slice (some ⟨q, 0, none⟩) F.length c1) F.length (ints (F.set j (v - 1)))) := World.ownsRow.kept (OFe.out.alloc (.cells #[] 72)) hg2 (.inr (fun e => by have := hge q (by simpa [Value.ownBlock] using e.symm); omega))
 clear ho2 hg2 hp2 hge ho2' hs2 hlq T0b T1b TEb T0e T1e TEe OF2 OFe HB2 HBe RDe x0 x1 x2 x3 x4 xf y0 l1 n3 n4
 obtain ⟨y0, y1, y2⟩ := T0.out.cells
 obtain ⟨z0, z1, z2⟩ := T1.out.cells
 have yf := T0.out.frozen
 have zf := T1.out.frozen
 have x0 : w2.cell? ⟨w.heap.size + 1 + 1 + 1, 0, none⟩ = some (.int .i64 kc) := TE.out.cell 0
 have x1 : w2.cell? ⟨w.heap.size + 1 + 1 + 1, 1, none⟩ = some (.int .i64 kx) := TE.out.cell 1
 have x2 : w2.cell? ⟨w.heap.size + 1 + 1 + 1, 2, none⟩ = some (.int .i64 k_y) := TE.out.cell 2
 have x3 : w2.cell? ⟨w.heap.size + 1 + 1 + 1, 3, none⟩ = some (.int .i64 kl) := TE.out.cell 3
 have x4 : w2.cell? ⟨w.heap.size + 1 + 1 + 1, 4, none⟩ = some (.int .i64 (kg + 1)) := TE.out.cell 4
 have xq : ∀ p, p < 5 → ∃ u, w2.cell? ⟨q2, k * 5 + p, none⟩ = some u := fun p hp => ⟨_, (OF.out.cellAt (k * 5 + p) (by omega)).trans (List.getElem?_eq_getElem (by rw [figs_length]; omega))⟩
 obtain ⟨v0, xq0⟩ := xq 0 (by omega)
 obtain ⟨v1, xq1⟩ := xq 1 (by omega)
 obtain ⟨v2, xq2⟩ := xq 2 (by omega)
 obtain ⟨v3, xq3⟩ := xq 3 (by omega)
 obtain ⟨v4, xq4⟩ := xq 4 (by omega)
 rw [Nat.add_zero] at xq0
 have ff := fun i => OF.out.frozenAt i
 have m1 : ¬ q2 = w.heap.size := by omega
 have m2 : ¬ w.heap.size = q2 := by omega
 have m3 : ¬ q2 = w.heap.size + 1 + 1 := by omega
 have m4 : ¬ w.heap.size + 1 + 1 = q2 := by omega
 have m5 : ¬ q2 = w.heap.size + 1 + 1 + 1 := by omega
 have m6 : ¬ w.heap.size + 1 + 1 + 1 = q2 := by omega
 have l1 : w.heap.size < w2.heap.size := by have := SZ.out; omega
 have l2 : w.heap.size + 1 + 1 < w2.heap.size := by have := SZ.out; omega
 have l3 : w.heap.size + 1 + 1 + 1 < w2.heap.size := by have := SZ.out; omega
 clear xq
 go_wp2
 have LE : (E.set k ⟨kc, kx, k_y, kl, kg + 1⟩).length = E.length := List.length_set
 have LF : (F.set j (v - 1)).length = F.length := List.length_set
 refine bodyPost_ret (v := .tuple #[.agg #[.slice (some ⟨q2, 0, none⟩) E.length c2, .slice (some ⟨q, 0, none⟩) F.length c1, .slice C L.length d], .int .i64 0]) (by simp [results, Try.results88, go_sem, y0, y1, y2, z0, z1, z2]) rfl ⟨some ⟨q2, 0, none⟩, c2, some ⟨q, 0, none⟩, c1, by rw [LE, LF], ?_⟩
 have OG : ∀ p0 p1 p2 p3 : Value, (((((((((w2.setCell ⟨w.heap.size, 0, none⟩ p0).setCell ⟨q2, k * 5, none⟩ (.int .i64 kc)).setCell ⟨q2, k * 5 + 1, none⟩ (.int .i64 kx)).setCell ⟨q2, k * 5 + 2, none⟩ (.int .i64 k_y)).setCell ⟨q2, k * 5 + 3, none⟩ (.int .i64 kl)).setCell ⟨q2, k * 5 + 4, none⟩ (.int .i64 (kg + 1))).setCell ⟨w.heap.size + 1 + 1, 0, none⟩ p1).setCell ⟨w.heap.size + 1 + 1, 1, none⟩ p2).setCell ⟨w.heap.size + 1 + 1, 2, none⟩ p3).ownsRow (w.heap.size + 4) 72 5 (.slice (some ⟨q2, 0, none⟩) E.length c2) E.length (figs (E.set k ⟨kc, kx, k_y, kl, kg + 1⟩)) := fun p0 p1 p2 p3 => by
  iterate 3 (refine own_put ?_ (by omega) _ _)
  exact own_setFig (own_put OF.out (by omega) _ _) k hk ⟨kc, kx, k_y, kl, kg + 1⟩
 have OI : ∀ p0 p1 p2 p3 : Value, (((((((((w2.setCell ⟨w.heap.size, 0, none⟩ p0).setCell ⟨q2, k * 5, none⟩ (.int .i64 kc)).setCell ⟨q2, k * 5 + 1, none⟩ (.int .i64 kx)).setCell ⟨q2, k * 5 + 2, none⟩ (.int .i64 k_y)).setCell ⟨q2, k * 5 + 3, none⟩ (.int .i64 kl)).setCell ⟨q2, k * 5 + 4, none⟩ (.int .i64 (kg + 1))).setCell ⟨w.heap.size + 1 + 1, 0, none⟩ p1).setCell ⟨w.heap.size + 1 + 1, 1, none⟩ p2).setCell ⟨w.heap.size + 1 + 1, 2, none⟩ p3).ownsRow (w.heap.size + 4) 3 1 (.slice (some ⟨q, 0, none⟩) F.length c1) F.length (ints (F.set j (v - 1))) := fun p0 p1 p2 p3 => by
  iterate 3 (refine own_put ?_ (by omega) _ _)
  iterate 5 (refine own_other ?_ hqq _ _)
  exact own_put OFF.out (by omega) _ _
 have BG : ∀ p0 p1 p2 p3 : Value, Below w.heap.size w (((((((((w2.setCell ⟨w.heap.size, 0, none⟩ p0).setCell ⟨q2, k * 5, none⟩ (.int .i64 kc)).setCell ⟨q2, k * 5 + 1, none⟩ (.int .i64 kx)).setCell ⟨q2, k * 5 + 2, none⟩ (.int .i64 k_y)).setCell ⟨q2, k * 5 + 3, none⟩ (.int .i64 kl)).setCell ⟨q2, k * 5 + 4, none⟩ (.int .i64 (kg + 1))).setCell ⟨w.heap.size + 1 + 1, 0, none⟩ p1).setCell ⟨w.heap.size + 1 + 1, 1, none⟩ p2).setCell ⟨w.heap.size + 1 + 1, 2, none⟩ p3) := fun p0 p1 p2 p3 => by
  iterate 9 (refine Below.setCell ?_ (by first | (simp; done) | (simp; omega)) _)
  exact BF.out
 exact ⟨⟨RdF.of_own (OG _ _ _ _), RdI.of_own (OI _ _ _ _), RdI.below HG0.out.rL (BG _ _ _ _), (by rw [LE]; exact (own_cap OF.out).1), (by rw [LF]; exact (own_cap OFF.out).1), HG0.out.cC, .inr ⟨q2, rfl⟩, .inr ⟨q, rfl⟩, HG0.out.nC, (fun x hx => (own_at (OG _ _ _ _) x hx).2), (fun x hx => (own_at (OI _ _ _ _) x hx).2), (fun x hx => Nat.lt_of_lt_of_le (HG0.out.lC x hx) (BG _ _ _ _).size)⟩, (fun x hx => by have := (own_at OF.out x hx).1; omega), (fun x hx => by have := (own_at OFF.out x hx).1; omega), BG _ _ _ _⟩
end Go.Proofs.Ytameldhdegcpoaa
namespace Go.Proofs.Ytameldhdegcpoaa
open Go.ChangeShapes Go.WideShapes Go.ChangeAt Go.RowKit
set_option linter.unusedVariables false
set_option linter.unusedSimpArgs false
def ActR (A B C : Option Addr) (d : Nat) (L : List Int) (E' : List Fig) (F' : List Int) (code : Int) (w : World) (e : Ending) (w' : World) : Prop :=
 ∃ A' a' B' b', e = .returned (.tuple #[gameV A' E'.length a' B' F'.length b' C L.length d, .int .i64 code]) ∧ GmR w' A' a' B' b' C d E' F' L ∧
  (A' = A ∨ ∀ x, A' = some ⟨x, 0, none⟩ → w.heap.size ≤ x) ∧ (B' = B ∨ ∀ x, B' = some ⟨x, 0, none⟩ → w.heap.size ≤ x) ∧ Below w.heap.size w w'
set_option maxRecDepth 100000 in
set_option maxHeartbeats 8000000 in
theorem actHit (g : Nat) (a : Nat) (B : Option Addr) (b : Nat) (C : Option Addr) (d : Nat) (E : List Fig) (F L : List Int) (k : Nat) (rc rn rx ry kc kx k_y kl kg : Int) (w : World) (hE : E.length ≤ 4) (hk : k < E.length) (hfk : E[k]'hk = ⟨kc, kx, k_y, kl, kg⟩) (b1 : 0 ≤ kx ∧ kx ≤ 3) (b2 : 0 ≤ k_y ∧ k_y ≤ 3) (b3 : 0 ≤ kg ∧ kg ≤ 20) (E' : List Fig) (F' : List Int) (code : Int) (hh : ∀ wz : World, GmR wz (some ⟨g, 0, none⟩) a B b C d E F L → Calls Try.prog 106 #[gameV (some ⟨g, 0, none⟩) E.length a B F.length b C L.length d, .int .i64 (k : Int), .int .i64 (posF rx E)] wz (ActR (some ⟨g, 0, none⟩) B C d L E' F' code wz)) (hg : GmR w (some ⟨g, 0, none⟩) a B b C d E F L) :
 Calls Try.prog 88 #[gameV (some ⟨g, 0, none⟩) E.length a B F.length b C L.length d, .int .i64 (k : Int), .agg #[.int .i64 rc, .int .i64 rn, .int .i64 4, .int .i64 rx, .int .i64 ry]] w (ActR (some ⟨g, 0, none⟩) B C d L E' F' code w) := by
 have BW : Hid (Below w.heap.size w ((((w.alloc (.cells #[.slice (some ⟨g, 0, none⟩) E.length a, .slice B F.length b, .slice C L.length d] 29)).alloc (.cells #[.int .i64 rc, .int .i64 rn, .int .i64 4, .int .i64 rx, .int .i64 ry] 49)).alloc (.cells #[.slice none 0 0, .slice none 0 0, .slice none 0 0] 29)).alloc (.cells #[.int .i64 kc, .int .i64 kx, .int .i64 k_y, .int .i64 kl, .int .i64 kg] 72))) := (((below_alloc2 w _ _).alloc (by simp; omega) _).alloc (by simp; omega) _)
 have HSW : Hid (((((w.alloc (.cells #[.slice (some ⟨g, 0, none⟩) E.length a, .slice B F.length b, .slice C L.length d] 29)).alloc (.cells #[.int .i64 rc, .int .i64 rn, .int .i64 4, .int .i64 rx, .int .i64 ry] 49)).alloc (.cells #[.slice none 0 0, .slice none 0 0, .slice none 0 0] 29)).alloc (.cells #[.int .i64 kc, .int .i64 kx, .int .i64 k_y, .int .i64 kl, .int .i64 kg] 72)).heap.size = w.heap.size + 4) := by show _ = _; simp
 have K0 : Hid (Three ((((w.alloc (.cells #[.slice (some ⟨g, 0, none⟩) E.length a, .slice B F.length b, .slice C L.length d] 29)).alloc (.cells #[.int .i64 rc, .int .i64 rn, .int .i64 4, .int .i64 rx, .int .i64 ry] 49)).alloc (.cells #[.slice none 0 0, .slice none 0 0, .slice none 0 0] 29)).alloc (.cells #[.int .i64 kc, .int .i64 kx, .int .i64 k_y, .int .i64 kl, .int .i64 kg] 72)) w.heap.size 29 (.slice (some ⟨g, 0, none⟩) E.length a) (.slice B F.length b) (.slice C L.length d)) := (((Three.new w).alloc _).alloc _).alloc _
 have KR : Hid (Bkk ((((w.alloc (.cells #[.slice (some ⟨g, 0, none⟩) E.length a, .slice B F.length b, .slice C L.length d] 29)).alloc (.cells #[.int .i64 rc, .int .i64 rn, .int .i64 4, .int .i64 rx, .int .i64 ry] 49)).alloc (.cells #[.slice none 0 0, .slice none 0 0, .slice none 0 0] 29)).alloc (.cells #[.int .i64 kc, .int .i64 kx, .int .i64 k_y, .int .i64 kl, .int .i64 kg] 72)) (w.heap.size + 1) 49 #[.int .i64 rc, .int .i64 rn, .int .i64 4, .int .i64 rx, .int .i64 ry]) := by have := ((Bkk.new (t := 49) (cs := #[.int .i64 rc, .int .i64 rn, .int .i64 4, .int .i64 rx, .int .i64 ry]) (w.alloc (.cells #[.slice (some ⟨g, 0, none⟩) E.length a, .slice B F.length b, .slice C L.length d] 29))).alloc (.cells #[.slice none 0 0, .slice none 0 0, .slice none 0 0] 29)).alloc (.cells #[.int .i64 kc, .int .i64 kx, .int .i64 k_y, .int .i64 kl, .int .i64 kg] 72); simpa [Hid] using this
 have K1 : Hid (Three ((((w.alloc (.cells #[.slice (some ⟨g, 0, none⟩) E.length a, .slice B F.length b, .slice C L.length d] 29)).alloc (.cells #[.int .i64 rc, .int .i64 rn, .int .i64 4, .int .i64 rx, .int .i64 ry] 49)).alloc (.cells #[.slice none 0 0, .slice none 0 0, .slice none 0 0] 29)).alloc (.cells #[.int .i64 kc, .int .i64 kx, .int .i64 k_y, .int .i64 kl, .int .i64 kg] 72)) (w.heap.size + 1 + 1) 29 (.slice none 0 0) (.slice none 0 0) (.slice none 0 0)) := by have := (Three.new (t := 29) (u0 := .slice none 0 0) (u1 := .slice none 0 0) (u2 := .slice none 0 0) ((w.alloc (.cells #[.slice (some ⟨g, 0, none⟩) E.length a, .slice B F.length b, .slice C L.length d] 29)).alloc (.cells #[.int .i64 rc, .int .i64 rn, .int .i64 4, .int .i64 rx, .int .i64 ry] 49))).alloc (.cells #[.int .i64 kc, .int .i64 kx, .int .i64 k_y, .int .i64 kl, .int .i64 kg] 72); simpa [Hid] using this
 have KE : Hid (Bkk ((((w.alloc (.cells #[.slice (some ⟨g, 0, none⟩) E.length a, .slice B F.length b, .slice C L.length d] 29)).alloc (.cells #[.int .i64 rc, .int .i64 rn, .int .i64 4, .int .i64 rx, .int .i64 ry] 49)).alloc (.cells #[.slice none 0 0, .slice none 0 0, .slice none 0 0] 29)).alloc (.cells #[.int .i64 kc, .int .i64 kx, .int .i64 k_y, .int .i64 kl, .int .i64 kg] 72)) (w.heap.size + 1 + 1 + 1) 72 #[.int .i64 kc, .int .i64 kx, .int .i64 k_y, .int .i64 kl, .int .i64 kg]) := by have := Bkk.new (t := 72) (cs := #[.int .i64 kc, .int .i64 kx, .int .i64 k_y, .int .i64 kl, .int .i64 kg]) (((w.alloc (.cells #[.slice (some ⟨g, 0, none⟩) E.length a, .slice B F.length b, .slice C L.length d] 29)).alloc (.cells #[.int .i64 rc, .int .i64 rn, .int .i64 4, .int .i64 rx, .int .i64 ry] 49)).alloc (.cells #[.slice none 0 0, .slice none 0 0, .slice none 0 0] 29)); simpa [Hid] using this
 have HG0 := Lib.hid hg
 obtain ⟨g', hg', a0, a1, a2, a3, a4⟩ := (hg.below ((below_alloc2 w (.cells #[.slice (some ⟨g, 0, none⟩) E.length a, .slice B F.length b, .slice C L.length d] 29) (.cells #[.int .i64 rc, .int .i64 rn, .int .i64 4, .int .i64 rx, .int .i64 ry] 49)).alloc (by simp; omega) (.cells #[.slice none 0 0, .slice none 0 0, .slice none 0 0] 29))).rE k hk
 cases hg'
 rw [hfk] at a0 a1 a2 a3 a4
 simp only at a0 a1 a2 a3 a4
 have gl : g < w.heap.size + 1 + 1 + 1 := by have := World.block_lt_of_cell? _ _ a0; simpa using this
 have i0 : (0 : Int) ≤ (k : Int) := by omega
 have i1 : (k : Int) < (E.length : Int) := by omega
 have HFK := Lib.hid hfk
 have HG := Lib.hid (hg.below BW.out)
 have HH := Lib.hid hh
 have HD : Hid (Below ((((w.alloc (.cells #[.slice (some ⟨g, 0, none⟩) E.length a, .slice B F.length b, .slice C L.length d] 29)).alloc (.cells #[.int .i64 rc, .int .i64 rn, .int .i64 4, .int .i64 rx, .int .i64 ry] 49)).alloc (.cells #[.slice none 0 0, .slice none 0 0, .slice none 0 0] 29)).alloc (.cells #[.int .i64 kc, .int .i64 kx, .int .i64 k_y, .int .i64 kl, .int .i64 kg] 72)).heap.size ((((w.alloc (.cells #[.slice (some ⟨g, 0, none⟩) E.length a, .slice B F.length b, .slice C L.length d] 29)).alloc (.cells #[.int .i64 rc, .int .i64 rn, .int .i64 4, .int .i64 rx, .int .i64 ry] 49)).alloc (.cells #[.slice none 0 0, .slice none 0 0, .slice none 0 0] 29)).alloc (.cells #[.int .i64 kc, .int .i64 kx, .int .i64 k_y, .int .i64 kl, .int .i64 kg] 72)) ((((w.alloc (.cells #[.slice (some ⟨g, 0, none⟩) E.length a, .slice B F.length b, .slice C L.length d] 29)).alloc (.cells #[.int .i64 rc, .int .i64 rn, .int .i64 4, .int .i64 rx, .int .i64 ry] 49)).alloc (.cells #[.slice none 0 0, .slice none 0 0, .slice none 0 0] 29)).alloc (.cells #[.int .i64 kc, .int .i64 kx, .int .i64 k_y, .int .i64 kl, .int .i64 kg] 72)).drew) := (Below.refl _ _).drew
 have SB : ∀ {wz : World}, Below ((((w.alloc (.cells #[.slice (some ⟨g, 0, none⟩) E.length a, .slice B F.length b, .slice C L.length d] 29)).alloc (.cells #[.int .i64 rc, .int .i64 rn, .int .i64 4, .int .i64 rx, .int .i64 ry] 49)).alloc (.cells #[.slice none 0 0, .slice none 0 0, .slice none 0 0] 29)).alloc (.cells #[.int .i64 kc, .int .i64 kx, .int .i64 k_y, .int .i64 kl, .int .i64 kg] 72)).heap.size ((((w.alloc (.cells #[.slice (some ⟨g, 0, none⟩) E.length a, .slice B F.length b, .slice C L.length d] 29)).alloc (.cells #[.int .i64 rc, .int .i64 rn, .int .i64 4, .int .i64 rx, .int .i64 ry] 49)).alloc (.cells #[.slice none 0 0, .slice none 0 0, .slice none 0 0] 29)).alloc (.cells #[.int .i64 kc, .int .i64 kx, .int .i64 k_y, .int .i64 kl, .int .i64 kg] 72)) wz → ((fun W => W.cell? ⟨w.heap.size, 0, none⟩ = some (.slice (some ⟨g, 0, none⟩) E.length a) ∧ W.cell? ⟨w.heap.size, 1, none⟩ = some (.slice B F.length b) ∧ W.cell? ⟨w.heap.size, 2, none⟩ = some (.slice C L.length d) ∧ W.cell? ⟨w.heap.size + 1, 3, none⟩ = some (.int .i64 rx))) wz := fun hb => by
  obtain ⟨s0, s1, s2⟩ := (K0.out.below hb (by rw [HSW.out]; omega)).cells
  exact ⟨s0, s1, s2, (KR.out.below hb).cell 3⟩
 obtain ⟨s0, s1, s2⟩ := K0.out.cells
 have s3 : ((((w.alloc (.cells #[.slice (some ⟨g, 0, none⟩) E.length a, .slice B F.length b, .slice C L.length d] 29)).alloc (.cells #[.int .i64 rc, .int .i64 rn, .int .i64 4, .int .i64 rx, .int .i64 ry] 49)).alloc (.cells #[.slice none 0 0, .slice none 0 0, .slice none 0 0] 29)).alloc (.cells #[.int .i64 kc, .int .i64 kx, .int .i64 k_y, .int .i64 kl, .int .i64 kg] 72)).cell? ⟨w.heap.size + 1, 3, none⟩ = some (.int .i64 rx) := KR.out.cell 3
 clear hg hfk hh
 unfold ActR gameV
 unfold gameV at HH
 go_enter Try.func88, Try.ntmps88
 go_wp2_with (fail)
 refine wp_region_held_drew (S := (fun W => W.cell? ⟨w.heap.size, 0, none⟩ = some (.slice (some ⟨g, 0, none⟩) E.length a) ∧ W.cell? ⟨w.heap.size, 1, none⟩ = some (.slice B F.length b) ∧ W.cell? ⟨w.heap.size, 2, none⟩ = some (.slice C L.length d) ∧ W.cell? ⟨w.heap.size + 1, 3, none⟩ = some (.int .i64 rx))) (by kernel_rfl) ⟨s0, s1, s2, s3⟩ (fun hS0 => ?_)
 refine tkI 0 138 (v := ?_) rfl rfl ?_ ?_
 rotate_left
 · intro w1 hSw; (try dsimp only at hSw); go_split_ands; go_simp; (try with_reducible rfl)
 (try simp only [Act.put, pu1, pu2, pu3])
 refine tkI 1 139 (v := ?_) rfl rfl ?_ ?_
 rotate_left
 · intro w1 hSw; (try dsimp only at hSw); go_split_ands; go_simp; (try with_reducible rfl)
 (try simp only [Act.put, pu1, pu2, pu3])
 refine tkI 2 140 (v := ?_) rfl rfl ?_ ?_
 rotate_left
 · intro w1 hSw; (try dsimp only at hSw); go_split_ands; go_simp; (try with_reducible rfl)
 (try simp only [Act.put, pu1, pu2, pu3])
 refine tkI 3 141 (v := ?_) rfl rfl ?_ ?_
 rotate_left
 · intro w1 hSw; (try dsimp only at hSw); go_split_ands; go_simp; (try with_reducible rfl)
 (try simp only [Act.put, pu1, pu2, pu3])
 refine tkI 4 142 (v := ?_) rfl rfl ?_ ?_
 rotate_left
 · intro w1 hSw; (try dsimp only at hSw); go_split_ands; go_simp; (try with_reducible rfl)
 (try simp only [Act.put, pu1, pu2, pu3])
 refine wpAnyH_ready (rs := [5]) (by kernel_rfl) (by simp) ?_
 refine AllReadyH.cons rfl (fun K hK => ?_) AllReadyH.nil
 go_simp
 refine (l2At (some ⟨g, 0, none⟩) a B b C d E F L rx _ (by omega) (HG.out.below HD.out).rE).mono ?_
 rintro e w1 ⟨rfl, hb⟩
 have HB1 := Lib.hid (Below.and HD.out hb)
 clear hb
 have hS1 := SB HB1.out
 refine hK.out _ _ hS1 (fun hS2 => ?_)
 clear hK K
 (try simp only [Act.put, pu1, pu2, pu3])
 refine wpAnyH_ready (rs := [6]) (by kernel_rfl) (by simp) ?_
 refine AllReadyH.cons rfl (fun K hK => ?_) AllReadyH.nil
 go_simp
 refine (HH.out _ (HG.out.below HB1.out)).mono ?_
 rintro e w2 ⟨A', a', B', b', rfl, hG, hA, hB, hb⟩
 have HB2 := Lib.hid (Below.and HB1.out hb)
 have SZ1 := Lib.hid (show w.heap.size + 4 ≤ w1.heap.size by have := HB1.out.size; rw [HSW.out] at this; omega)
 have HG2 := Lib.hid hG
 have FA := Lib.hid hA
 have FB := Lib.hid hB
 clear hb hG hA hB
 obtain ⟨N3, hN3⟩ : ∃ N3, N3 = E'.length := ⟨_, rfl⟩
 obtain ⟨M3, hM3⟩ : ∃ M3, M3 = F'.length := ⟨_, rfl⟩
 have HN3 := Lib.hid hN3
 have HM3 := Lib.hid hM3
 unfold gameV
 rw [← hN3, ← hM3]
 clear hN3 hM3
 have hS3 := SB HB2.out
 refine hK.out _ _ hS3 (fun hS4 => ?_)
 clear hK K
 (try simp only [Act.put, pu1, pu2, pu3])
 have T1 := Lib.hid (K1.out.below HB2.out (by rw [HSW.out]; omega))
 obtain ⟨z0, z1, z2⟩ := T1.out.cells
 have zf := T1.out.frozen
 obtain ⟨s0, s1, s2, s3⟩ := hS4
 refine tkI 7 145 (v := ?_) rfl rfl ?_ ?_
 rotate_left
 · intro w1 hSw; (try dsimp only at hSw); go_split_ands; go_simp; (try with_reducible rfl)
 (try simp only [Act.put, pu1, pu2, pu3])
 refine tkI 8 146 (v := ?_) rfl rfl ?_ ?_
 rotate_left
 · intro w1 hSw; (try dsimp only at hSw); go_split_ands; go_simp; (try with_reducible rfl)
 (try simp only [Act.put, pu1, pu2, pu3])
 refine wpAnyH_ready (rs := [9]) (by kernel_rfl) (by simp) ?_
 refine AllReadyH.cons rfl (fun K hK => ?_) AllReadyH.nil
 go_simp
 refine hK.out _ _ ⟨by go_simp, by go_simp, by go_simp, by go_simp⟩ (fun hS5 => ?_)
 clear hK K
 (try simp only [Act.put, pu1, pu2, pu3])
 refine tkI 10 7 (v := ?_) rfl rfl ?_ ?_
 rotate_left
 · intro w1 hSw; (try dsimp only at hSw); go_split_ands; go_simp; (try with_reducible rfl)
 (try simp only [Act.put, pu1, pu2, pu3])
 refine wpAnyH_done (by kernel_rfl) ?_ _
 go_wp2
 refine bodyPost_ret (v := .tuple #[.agg #[.slice A' N3 a', .slice B' M3 b', .slice C L.length d], .int .i64 code]) (by simp [results, Try.results88, go_sem, z0, z1, z2]) rfl ⟨A', a', B', b', by rw [HN3.out, HM3.out], ?_⟩
 have hz := SZ1.out
 have pA : ∀ x, A' = some ⟨x, 0, none⟩ → x ≠ w.heap.size + 1 + 1 := fun x hx => by
  rcases FA.out with h | h
  · rw [h] at hx; have := HG0.out.lA x hx; omega
  · have := h x hx; omega
 have pB : ∀ x, B' = some ⟨x, 0, none⟩ → x ≠ w.heap.size + 1 + 1 := fun x hx => by
  rcases FB.out with h | h
  · rw [h] at hx; have := HG0.out.lB x hx; omega
  · have := h x hx; omega
 have pC : ∀ x, C = some ⟨x, 0, none⟩ → x ≠ w.heap.size + 1 + 1 := fun x hx => by have := HG0.out.lC x hx; omega
 refine ⟨?_, FA.out.imp id (fun h x hx => by have := h x hx; omega), FB.out.imp id (fun h x hx => by have := h x hx; omega), ?_⟩
 · iterate 3 (refine GmR.put ?_ _ _ _ pA pB pC)
   exact HG2.out
 · iterate 3 (refine Below.setCell ?_ (by first | (simp; done) | (simp; omega)) _)
   exact Below.and BW.out HB2.out
end Go.Proofs.Ytameldhdegcpoaa
