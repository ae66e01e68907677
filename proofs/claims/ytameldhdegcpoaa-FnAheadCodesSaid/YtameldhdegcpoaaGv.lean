import Derived.Test.YtameldhdegcpoaaNE
namespace Go.Proofs.Ytameldhdegcpoaa
open Go.ChangeShapes Go.WideShapes Go.ChangeAt Go.RowKit
set_option linter.unusedVariables false
set_option linter.unusedSimpArgs false
set_option maxRecDepth 100000 in
set_option maxHeartbeats 4000000 in
theorem doNot (A : Option Addr) (a : Nat) (B : Option Addr) (b : Nat) (C : Option Addr) (d : Nat) (E : List Fig) (F L : List Int) (rc rn ro rx ry : Int) (w : World) (hn : nullB ⟨rc, rn, ro, rx, ry⟩ = false) (j : Nat) (v : Int) (hj : rc - 1 = (j : Int)) (hjl : j < L.length) (hv : L[j]'hjl = v) (hc : 1 ≤ rc ∧ rc ≤ 4) (hL : L.length = 4) (hlt : ¬ rn ≤ v) (hE : E.length ≤ 4) (ho : ro ≠ 1) (hp : posF rc E < 0) (hg : GmR w A a B b C d E F L) :
 Calls Try.prog 56 #[gameV A E.length a B F.length b C L.length d, .agg #[.int .i64 rc, .int .i64 rn, .int .i64 ro, .int .i64 rx, .int .i64 ry]] w (DoP A B C ((E, F, (L.set j rn)), 5) w) := by
 obtain ⟨J, hi, hz0, hz1, hz2⟩ := parts_of infoInt'
 have J1 := Lib.hid hi
 have J2 := Lib.hid hz0
 have J3 := Lib.hid hz1
 have J4 := Lib.hid hz2
 clear hi hz0 hz1 hz2
 show Calls Try.prog 56 #[gameV A E.length a B F.length b C L.length d, .agg #[.int .i64 rc, .int .i64 rn, .int .i64 ro, .int .i64 rx, .int .i64 ry]] w fun e w' => ∃ A' a' B' b' C' d', e = .returned (.tuple #[gameV A' E.length a' B' F.length b' C' (L.set j rn).length d', .int .i64 5]) ∧ (GmR w' A' a' B' b' C' d' E F (L.set j rn) ∧ Below w.heap.size w w') ∧ Src w A A' ∧ Src w B B' ∧ Src w C C'
 have BW : Hid (Below w.heap.size w (((w.alloc (.cells #[.slice A E.length a, .slice B F.length b, .slice C L.length d] 29)).alloc (.cells #[.int .i64 rc, .int .i64 rn, .int .i64 ro, .int .i64 rx, .int .i64 ry] 49)).alloc (.cells #[.slice none 0 0, .slice none 0 0, .slice none 0 0] 29))) := ((below_alloc2 w _ _).alloc (by simp; omega) _)
 have HSW : Hid ((((w.alloc (.cells #[.slice A E.length a, .slice B F.length b, .slice C L.length d] 29)).alloc (.cells #[.int .i64 rc, .int .i64 rn, .int .i64 ro, .int .i64 rx, .int .i64 ry] 49)).alloc (.cells #[.slice none 0 0, .slice none 0 0, .slice none 0 0] 29)).heap.size = w.heap.size + 3) := by show _ = _; simp
 have K0 : Hid (Three (((w.alloc (.cells #[.slice A E.length a, .slice B F.length b, .slice C L.length d] 29)).alloc (.cells #[.int .i64 rc, .int .i64 rn, .int .i64 ro, .int .i64 rx, .int .i64 ry] 49)).alloc (.cells #[.slice none 0 0, .slice none 0 0, .slice none 0 0] 29)) w.heap.size 29 (.slice A E.length a) (.slice B F.length b) (.slice C L.length d)) := ((Three.new w).alloc _).alloc _
 have KR : Hid (Bkk (((w.alloc (.cells #[.slice A E.length a, .slice B F.length b, .slice C L.length d] 29)).alloc (.cells #[.int .i64 rc, .int .i64 rn, .int .i64 ro, .int .i64 rx, .int .i64 ry] 49)).alloc (.cells #[.slice none 0 0, .slice none 0 0, .slice none 0 0] 29)) (w.heap.size + 1) 49 #[.int .i64 rc, .int .i64 rn, .int .i64 ro, .int .i64 rx, .int .i64 ry]) := by have := (Bkk.new (t := 49) (cs := #[.int .i64 rc, .int .i64 rn, .int .i64 ro, .int .i64 rx, .int .i64 ry]) (w.alloc (.cells #[.slice A E.length a, .slice B F.length b, .slice C L.length d] 29))).alloc (.cells #[.slice none 0 0, .slice none 0 0, .slice none 0 0] 29); simpa [Hid] using this
 have K1 : Hid (Three (((w.alloc (.cells #[.slice A E.length a, .slice B F.length b, .slice C L.length d] 29)).alloc (.cells #[.int .i64 rc, .int .i64 rn, .int .i64 ro, .int .i64 rx, .int .i64 ry] 49)).alloc (.cells #[.slice none 0 0, .slice none 0 0, .slice none 0 0] 29)) (w.heap.size + 1 + 1) 29 (.slice none 0 0) (.slice none 0 0) (.slice none 0 0)) := by have := Three.new (t := 29) (u0 := .slice none 0 0) (u1 := .slice none 0 0) (u2 := .slice none 0 0) ((w.alloc (.cells #[.slice A E.length a, .slice B F.length b, .slice C L.length d] 29)).alloc (.cells #[.int .i64 rc, .int .i64 rn, .int .i64 ro, .int .i64 rx, .int .i64 ry] 49)); simpa [Hid] using this
 have HG0 := Lib.hid hg
 have HN := Lib.hid hn
 have q1 : IntKind.i64.wrap (rc - 1) = (j : Int) := by rw [hj]; exact IntWalk.i64_in _ (by omega)
 have i2 : (0 : Int) ≤ (j : Int) := by omega
 have i3 : (j : Int) < (L.length : Int) := by omega
 have HV := Lib.hid hv
 clear hj hv
 have e3 : decide (rn ≤ v) = false := by simpa using hlt
 have HLL := Lib.hid hL
 clear hL
 have e5 : (ro == 1) = false := by simpa using ho
 have e6 : decide (posF rc E < 0) = true := by simpa using hp
 clear hg hn
 unfold gameV
 go_enter Try.func56, Try.ntmps56
 go_wp2_with (fail)
 refine (l1None ⟨rc, rn, ro, rx, ry⟩ _).mono ?_
 rintro e wa ⟨rfl, hb⟩
 rw [HN.out]
 have BF := Lib.hid (Below.and BW.out hb)
 have T0 := Lib.hid (K0.out.below hb (by rw [HSW.out]; omega))
 have T1 := Lib.hid (K1.out.below hb (by rw [HSW.out]; omega))
 have TR := Lib.hid (KR.out.below hb)
 have SZ := Lib.hid (show w.heap.size + 3 ≤ wa.heap.size by have := hb.size; rw [HSW.out] at this; omega)
 clear hb K0 K1 KR BW HSW
 obtain ⟨qb, hqb, xb⟩ := (HG0.out.below BF.out).rL j hjl
 subst hqb
 rw [HV.out] at xb
 obtain ⟨y0, y1, y2⟩ := T0.out.cells
 have xr0 : wa.cell? ⟨w.heap.size + 1, 0, none⟩ = some (.int .i64 rc) := TR.out.cell 0
 have xr1 : wa.cell? ⟨w.heap.size + 1, 1, none⟩ = some (.int .i64 rn) := TR.out.cell 1
 have l1 : w.heap.size < wa.heap.size := by have := SZ.out; omega
 have l2 : w.heap.size + 1 < wa.heap.size := by have := SZ.out; omega
 have l3 : qb < wa.heap.size := by have := HG0.out.lC qb rfl; have := SZ.out; omega
 go_wp2_with (fail)
 refine wp_region_held_drew (S := fun w1 => Below wa.heap.size wa w1) (by kernel_rfl) ((Below.refl _ _).drew) (fun hq => ?_)
 refine tkI 0 10 (v := ?_) rfl rfl ?_ ?_
 rotate_left
 · intro w1 hSw; obtain ⟨hcS, hfS⟩ := bcell hSw; go_simp; (try with_reducible rfl)
 (try simp only [Act.put, pu1, pu2, pu3])
 refine tkI 1 11 (v := ?_) rfl rfl ?_ ?_
 rotate_left
 · intro w1 hSw; obtain ⟨hcS, hfS⟩ := bcell hSw; go_simp; (try with_reducible rfl)
 (try simp only [Act.put, pu1, pu2, pu3])
 refine tkI 2 12 (v := ?_) rfl rfl ?_ ?_
 rotate_left
 · intro w1 hSw; obtain ⟨hcS, hfS⟩ := bcell hSw; go_simp; (try with_reducible rfl)
 (try simp only [Act.put, pu1, pu2, pu3])
 refine tkI 3 13 (v := ?_) rfl rfl ?_ ?_
 rotate_left
 · intro w1 hSw; obtain ⟨hcS, hfS⟩ := bcell hSw; go_simp; (try with_reducible rfl)
 (try simp only [Act.put, pu1, pu2, pu3])
 refine tkI 4 14 (v := ?_) rfl rfl ?_ ?_
 rotate_left
 · intro w1 hSw; obtain ⟨hcS, hfS⟩ := bcell hSw; go_simp; (try with_reducible rfl)
 (try simp only [Act.put, pu1, pu2, pu3])
 refine tkI 5 15 (v := ?_) rfl rfl ?_ ?_
 rotate_left
 · intro w1 hSw; obtain ⟨hcS, hfS⟩ := bcell hSw; go_simp; (try with_reducible rfl)
 (try simp only [Act.put, pu1, pu2, pu3])
 refine tkI 6 16 (v := ?_) rfl rfl ?_ ?_
 rotate_left
 · intro w1 hSw; obtain ⟨hcS, hfS⟩ := bcell hSw; go_simp; (try with_reducible rfl)
 (try simp only [Act.put, pu1, pu2, pu3])
 refine tkI 7 17 (v := ?_) rfl rfl ?_ ?_
 rotate_left
 · intro w1 hSw; obtain ⟨hcS, hfS⟩ := bcell hSw; go_simp; (try with_reducible rfl)
 (try simp only [Act.put, pu1, pu2, pu3])
 refine tkI 8 18 (v := ?_) rfl rfl ?_ ?_
 rotate_left
 · intro w1 hSw; obtain ⟨hcS, hfS⟩ := bcell hSw; go_simp; (try with_reducible rfl)
 (try simp only [Act.put, pu1, pu2, pu3])
 refine tkI 9 19 (v := ?_) rfl rfl ?_ ?_
 rotate_left
 · intro w1 hSw; obtain ⟨hcS, hfS⟩ := bcell hSw; go_simp; (try with_reducible rfl)
 (try simp only [Act.put, pu1, pu2, pu3])
 refine wpAnyH_done (by kernel_rfl) ?_ _
 have BF := Lib.hid (Below.and BF.out hq)
 have T0b := Lib.hid (T0.out.drew)
 have T1b := Lib.hid (T1.out.drew)
 have TRb : Hid (Bkk wa.drew (w.heap.size + 1) 49 #[.int .i64 rc, .int .i64 rn, .int .i64 ro, .int .i64 rx, .int .i64 ry]) := TR.out
 have SZb : Hid (w.heap.size + 3 ≤ wa.drew.heap.size) := SZ.out
 have BFb := BF
 clear y0 y1 y2 xr0 xr1 l1 l2 l3 xb hq T0 T1 TR SZ BF e3
 obtain ⟨WB, hW⟩ : ∃ X, X = wa.drew := ⟨_, rfl⟩
 rw [← hW] at T0b T1b TRb SZb BFb ⊢
 clear hW
 have RLb : Hid (RdI WB (some ⟨qb, 0, none⟩) L) := (HG0.out.below BFb.out).rL
 obtain ⟨y0, y1, y2⟩ := T0b.out.cells
 have l1 : w.heap.size < WB.heap.size := by have := SZb.out; omega
 go_wp2_with (at_builtin; go_loud (refine list_app cI_len rfl _ _ 27 rfl (w.heap.size + 3) 3 J (.int .i64 0) 8 Try.underlying27 J1.out J2.out J3.out J4.out rfl (by decide) (.slice (some ⟨WB.heap.size, 0, none⟩) 0 0) 0 [] rfl ?o1s1 _ _ L.length L ?m1s1 rfl ?r1s1 ?n1s1 (ints_one _) ?b1s1 ?c1s1 ?d1s1 ?_))
 try case o1s1 => (have := own_base (base' := w.heap.size + 3) (own_nil_new WB 3 1 rfl) (by have := SZb.out; omega); simpa using this)
 try case m1s1 => (rfl)
 try case r1s1 => (exact (RdI.below RLb.out ((Below.refl _ _).alloc (Nat.le_refl _) _)).rd)
 try case r1s1.inl => (exact (RdI.below RLb.out ((Below.refl _ _).alloc (Nat.le_refl _) _)).rd)
 try case r1s1.inr => (exact (RdI.below RLb.out ((Below.refl _ _).alloc (Nat.le_refl _) _)).rd)
 try case n1s1 => (intro e; cases e)
 try case b1s1 => (unfold maxLen; have := HLL.out; omega)
 try case c1s1 => (have := HLL.out; omega)
 try case d1s1 => (have := SZb.out; have := HLL.out; first | omega | (simp; omega))
 intro v1 w1 ho1 hg1 hp1
 obtain ⟨A1, c1, hv1, _⟩ := own_form ho1
 subst hv1
 have ho1' : w1.ownsRow (w.heap.size + 3) 3 1 (.slice A1 L.length c1) L.length (ints L) := by simpa [ints_flat] using ho1
 obtain ⟨q, rfl, hq1, hq2⟩ := own_some ho1' (by rw [HLL.out]; omega)
 have hge : ∀ x, (Value.slice (some ⟨WB.heap.size, 0, none⟩) 0 0).ownBlock = some x → WB.heap.size ≤ x := fun x hx => by simp [Value.ownBlock] at hx; omega
 have BF1 := Lib.hid (Below.trans (BFb.out.alloc BFb.out.size (.cells #[] 3)) (Below.of_grown hg1 (by have := SZb.out; simp; omega) (fun x hx => by have := hge x hx; have := SZb.out; omega)))
 have SZ1 := Lib.hid (show w.heap.size + 3 ≤ w1.heap.size by have := hg1.size; have := SZb.out; simp at *; omega)
 have T01 := Lib.hid ((T0b.out.alloc (.cells #[] 3)).grown hg1 (fun e => by have := hge _ e.symm; have := SZb.out; omega))
 have T11 := Lib.hid ((T1b.out.alloc (.cells #[] 3)).grown hg1 (fun e => by have := hge _ e.symm; have := SZb.out; omega))
 have TR1 : Hid (Bkk w1 (w.heap.size + 1) 49 #[.int .i64 rc, .int .i64 rn, .int .i64 ro, .int .i64 rx, .int .i64 ry]) := (hg1.block _ (by have := SZb.out; simp; omega) (fun e => by have := hge _ e.symm; have := SZb.out; omega)).trans (TRb.out.alloc (.cells #[] 3))
 have OF := Lib.hid ho1'
 clear ho1 hg1 hp1 hge ho1' T0b T1b TRb SZb BFb RLb y0 y1 y2 l1
 obtain ⟨y0, y1, y2⟩ := T01.out.cells
 have yf := T01.out.frozen
 have n1 : ¬ q = w.heap.size := by omega
 have n2 : ¬ w.heap.size = q := by omega
 have l1 : w.heap.size < w1.heap.size := by have := SZ1.out; omega
 have xq : w1.cell? ⟨q, j, none⟩ = some (.int .i64 v) := by rw [OF.out.cellAt j (by simp; omega)]; simp [hjl, HV.out]
 have ff := fun i => OF.out.frozenAt i
 have xr0 : w1.cell? ⟨w.heap.size + 1, 0, none⟩ = some (.int .i64 rc) := TR1.out.cell 0
 have xr1 : w1.cell? ⟨w.heap.size + 1, 1, none⟩ = some (.int .i64 rn) := TR1.out.cell 1
 have n3 : ¬ q = w.heap.size + 1 := by omega
 have n4 : ¬ w.heap.size + 1 = q := by omega
 have l2 : w.heap.size + 1 < w1.heap.size := by have := SZ1.out; omega
 have l3 : q < w1.heap.size := hq2
 go_wp2_with (fail)
 clear y0 y1 y2 yf l1 l2 l3 xr0 xr1 xq ff n3 n4
 have T0a := Lib.hid ((T01.out.set2 (.slice (some ⟨q, 0, none⟩) L.length c1)).far n2 (j := j) (.int .i64 rn))
 have T1a := Lib.hid ((T11.out.far (show w.heap.size + 1 + 1 ≠ w.heap.size by omega) (j := 2) (.slice (some ⟨q, 0, none⟩) L.length c1)).far (show w.heap.size + 1 + 1 ≠ q by omega) (j := j) (.int .i64 rn))
 have TRa := Lib.hid ((TR1.out.far (show w.heap.size + 1 ≠ w.heap.size by omega) 2 (.slice (some ⟨q, 0, none⟩) L.length c1)).far (show w.heap.size + 1 ≠ q by omega) j (.int .i64 rn))
 have OFa : Hid (((w1.setCell ⟨w.heap.size, 2, none⟩ (.slice (some ⟨q, 0, none⟩) L.length c1)).setCell ⟨q, j, none⟩ (.int .i64 rn)).ownsRow (w.heap.size + 3) 3 1 (.slice (some ⟨q, 0, none⟩) L.length c1) L.length (ints (L.set j rn))) := by
  have h := (own_set1 j (.int .i64 rn) (by simp; omega) (own_put OF.out (b := w.heap.size) (by omega) 2 (.slice (some ⟨q, 0, none⟩) L.length c1))).1
  have e1 : (ints L).set j (.int .i64 rn) = ints (L.set j rn) := by simp [ints, List.map_set]
  rw [e1] at h
  exact h
 have HBa := Lib.hid ((BF1.out.setCell (Nat.le_refl w.heap.size) (p := ⟨w.heap.size, 2, none⟩) (.slice (some ⟨q, 0, none⟩) L.length c1)).setCell (show w.heap.size ≤ q by omega) (p := ⟨q, j, none⟩) (.int .i64 rn))
 have SZa : Hid (w.heap.size + 3 ≤ ((w1.setCell ⟨w.heap.size, 2, none⟩ (.slice (some ⟨q, 0, none⟩) L.length c1)).setCell ⟨q, j, none⟩ (.int .i64 rn)).heap.size) := by show _ ≤ _; have := SZ1.out; simp; omega
 obtain ⟨WA, hW⟩ : ∃ X, X = (w1.setCell ⟨w.heap.size, 2, none⟩ (.slice (some ⟨q, 0, none⟩) L.length c1)).setCell ⟨q, j, none⟩ (.int .i64 rn) := ⟨_, rfl⟩
 rw [← hW] at T0a T1a TRa OFa HBa SZa ⊢
 clear hW T01 T11 TR1 OF BF1 SZ1
 have LE1 : (L.set j rn).length = L.length := List.length_set
 have QN := Lib.hid (show w.heap.size ≤ q by have := (own_at OFa.out q rfl).1; omega)
 have GL : Hid (GmR WA A a B b (some ⟨q, 0, none⟩) c1 E F (L.set j rn)) :=
  ⟨RdF.below HG0.out.rE HBa.out, RdI.below HG0.out.rF HBa.out, RdI.of_own OFa.out, HG0.out.cA, HG0.out.cB, (by rw [LE1]; exact (own_cap OFa.out).1), HG0.out.nA, HG0.out.nB, .inr ⟨q, rfl⟩, (fun x hx => Nat.lt_of_lt_of_le (HG0.out.lA x hx) HBa.out.size), (fun x hx => Nat.lt_of_lt_of_le (HG0.out.lB x hx) HBa.out.size), (fun x hx => (own_at OFa.out x hx).2)⟩
 have h := l2At A a B b (some ⟨q, 0, none⟩) c1 E F (L.set j rn) rc WA (by omega) GL.out.rE
 rw [LE1] at h
 refine h.mono ?_
 clear h
 rintro e wc ⟨rfl, hb⟩
 have T0 := Lib.hid (T0a.out.below hb (by have := SZa.out; omega))
 have T1 := Lib.hid (T1a.out.below hb (by have := SZa.out; omega))
 have TR := Lib.hid (TRa.out.below hb)
 have BF := Lib.hid (Below.and HBa.out hb)
 have GLc := Lib.hid (GL.out.below hb)
 have SZ := Lib.hid (show w.heap.size + 3 ≤ wc.heap.size by have := hb.size; have := SZa.out; omega)
 have HLE := Lib.hid LE1
 clear hb T0a T1a TRa OFa HBa SZa GL LE1
 obtain ⟨y0, y1, y2⟩ := T0.out.cells
 obtain ⟨z0, z1, z2⟩ := T1.out.cells
 have zf := T1.out.frozen
 have xr0 : wc.cell? ⟨w.heap.size + 1, 0, none⟩ = some (.int .i64 rc) := TR.out.cell 0
 have xr1 : wc.cell? ⟨w.heap.size + 1, 1, none⟩ = some (.int .i64 rn) := TR.out.cell 1
 have xr2 : wc.cell? ⟨w.heap.size + 1, 2, none⟩ = some (.int .i64 ro) := TR.out.cell 2
 have xr3 : wc.cell? ⟨w.heap.size + 1, 3, none⟩ = some (.int .i64 rx) := TR.out.cell 3
 have xr4 : wc.cell? ⟨w.heap.size + 1, 4, none⟩ = some (.int .i64 ry) := TR.out.cell 4
 have l1 : w.heap.size < wc.heap.size := by have := SZ.out; omega
 have l2 : w.heap.size + 1 < wc.heap.size := by have := SZ.out; omega
 have pA : ∀ x, A = some ⟨x, 0, none⟩ → x ≠ w.heap.size + 1 + 1 := fun x hx => by have := HG0.out.lA x hx; omega
 have pB : ∀ x, B = some ⟨x, 0, none⟩ → x ≠ w.heap.size + 1 + 1 := fun x hx => by have := HG0.out.lB x hx; omega
 have pC : ∀ x, (some ⟨q, 0, none⟩ : Option Addr) = some ⟨x, 0, none⟩ → x ≠ w.heap.size + 1 + 1 := fun x hx => by cases hx; omega
 go_wp2
 refine bodyPost_ret (v := .tuple #[.agg #[.slice A E.length a, .slice B F.length b, .slice (some ⟨q, 0, none⟩) L.length c1], .int .i64 5]) (by simp [results, Try.results56, go_sem, y0, y1, y2, z0, z1, z2]) rfl ⟨A, a, B, b, some ⟨q, 0, none⟩, c1, by rw [HLE.out], ?_, Src.same _ _, Src.same _ _, Src.new QN.out⟩
 refine ⟨?_, ?_⟩
 · iterate 3 (refine GmR.put ?_ _ _ _ pA pB pC)
   exact GLc.out
 · iterate 3 (refine Below.setCell ?_ (by first | (simp; done) | (simp; omega)) _)
   exact BF.out
set_option maxRecDepth 100000 in
set_option maxHeartbeats 4000000 in
theorem doHas (A : Option Addr) (a : Nat) (B : Option Addr) (b : Nat) (C : Option Addr) (d : Nat) (E : List Fig) (F L : List Int) (rc rn rx ry : Int) (w : World) (hn : nullB ⟨rc, rn, 1, rx, ry⟩ = false) (j : Nat) (v : Int) (hj : rc - 1 = (j : Int)) (hjl : j < L.length) (hv : L[j]'hjl = v) (hc : 1 ≤ rc ∧ rc ≤ 4) (hL : L.length = 4) (hlt : ¬ rn ≤ v) (hE : E.length ≤ 4) (hp : 0 ≤ posF rc E) (hg : GmR w A a B b C d E F L) :
 Calls Try.prog 56 #[gameV A E.length a B F.length b C L.length d, .agg #[.int .i64 rc, .int .i64 rn, .int .i64 1, .int .i64 rx, .int .i64 ry]] w (DoP A B C ((E, F, (L.set j rn)), 4) w) := by
 obtain ⟨J, hi, hz0, hz1, hz2⟩ := parts_of infoInt'
 have J1 := Lib.hid hi
 have J2 := Lib.hid hz0
 have J3 := Lib.hid hz1
 have J4 := Lib.hid hz2
 clear hi hz0 hz1 hz2
 show Calls Try.prog 56 #[gameV A E.length a B F.length b C L.length d, .agg #[.int .i64 rc, .int .i64 rn, .int .i64 1, .int .i64 rx, .int .i64 ry]] w fun e w' => ∃ A' a' B' b' C' d', e = .returned (.tuple #[gameV A' E.length a' B' F.length b' C' (L.set j rn).length d', .int .i64 4]) ∧ (GmR w' A' a' B' b' C' d' E F (L.set j rn) ∧ Below w.heap.size w w') ∧ Src w A A' ∧ Src w B B' ∧ Src w C C'
 have BW : Hid (Below w.heap.size w (((w.alloc (.cells #[.slice A E.length a, .slice B F.length b, .slice C L.length d] 29)).alloc (.cells #[.int .i64 rc, .int .i64 rn, .int .i64 1, .int .i64 rx, .int .i64 ry] 49)).alloc (.cells #[.slice none 0 0, .slice none 0 0, .slice none 0 0] 29))) := ((below_alloc2 w _ _).alloc (by simp; omega) _)
 have HSW : Hid ((((w.alloc (.cells #[.slice A E.length a, .slice B F.length b, .slice C L.length d] 29)).alloc (.cells #[.int .i64 rc, .int .i64 rn, .int .i64 1, .int .i64 rx, .int .i64 ry] 49)).alloc (.cells #[.slice none 0 0, .slice none 0 0, .slice none 0 0] 29)).heap.size = w.heap.size + 3) := by show _ = _; simp
 have K0 : Hid (Three (((w.alloc (.cells #[.slice A E.length a, .slice B F.length b, .slice C L.length d] 29)).alloc (.cells #[.int .i64 rc, .int .i64 rn, .int .i64 1, .int .i64 rx, .int .i64 ry] 49)).alloc (.cells #[.slice none 0 0, .slice none 0 0, .slice none 0 0] 29)) w.heap.size 29 (.slice A E.length a) (.slice B F.length b) (.slice C L.length d)) := ((Three.new w).alloc _).alloc _
 have KR : Hid (Bkk (((w.alloc (.cells #[.slice A E.length a, .slice B F.length b, .slice C L.length d] 29)).alloc (.cells #[.int .i64 rc, .int .i64 rn, .int .i64 1, .int .i64 rx, .int .i64 ry] 49)).alloc (.cells #[.slice none 0 0, .slice none 0 0, .slice none 0 0] 29)) (w.heap.size + 1) 49 #[.int .i64 rc, .int .i64 rn, .int .i64 1, .int .i64 rx, .int .i64 ry]) := by have := (Bkk.new (t := 49) (cs := #[.int .i64 rc, .int .i64 rn, .int .i64 1, .int .i64 rx, .int .i64 ry]) (w.alloc (.cells #[.slice A E.length a, .slice B F.length b, .slice C L.length d] 29))).alloc (.cells #[.slice none 0 0, .slice none 0 0, .slice none 0 0] 29); simpa [Hid] using this
 have K1 : Hid (Three (((w.alloc (.cells #[.slice A E.length a, .slice B F.length b, .slice C L.length d] 29)).alloc (.cells #[.int .i64 rc, .int .i64 rn, .int .i64 1, .int .i64 rx, .int .i64 ry] 49)).alloc (.cells #[.slice none 0 0, .slice none 0 0, .slice none 0 0] 29)) (w.heap.size + 1 + 1) 29 (.slice none 0 0) (.slice none 0 0) (.slice none 0 0)) := by have := Three.new (t := 29) (u0 := .slice none 0 0) (u1 := .slice none 0 0) (u2 := .slice none 0 0) ((w.alloc (.cells #[.slice A E.length a, .slice B F.length b, .slice C L.length d] 29)).alloc (.cells #[.int .i64 rc, .int .i64 rn, .int .i64 1, .int .i64 rx, .int .i64 ry] 49)); simpa [Hid] using this
 have HG0 := Lib.hid hg
 have HN := Lib.hid hn
 have q1 : IntKind.i64.wrap (rc - 1) = (j : Int) := by rw [hj]; exact IntWalk.i64_in _ (by omega)
 have i2 : (0 : Int) ≤ (j : Int) := by omega
 have i3 : (j : Int) < (L.length : Int) := by omega
 have HV := Lib.hid hv
 clear hj hv
 have e3 : decide (rn ≤ v) = false := by simpa using hlt
 have HLL := Lib.hid hL
 clear hL
 have e6 : decide (0 ≤ posF rc E) = true := by simpa using hp
 clear hg hn
 unfold gameV
 go_enter Try.func56, Try.ntmps56
 go_wp2_with (fail)
 refine (l1None ⟨rc, rn, 1, rx, ry⟩ _).mono ?_
 rintro e wa ⟨rfl, hb⟩
 rw [HN.out]
 have BF := Lib.hid (Below.and BW.out hb)
 have T0 := Lib.hid (K0.out.below hb (by rw [HSW.out]; omega))
 have T1 := Lib.hid (K1.out.below hb (by rw [HSW.out]; omega))
 have TR := Lib.hid (KR.out.below hb)
 have SZ := Lib.hid (show w.heap.size + 3 ≤ wa.heap.size by have := hb.size; rw [HSW.out] at this; omega)
 clear hb K0 K1 KR BW HSW
 obtain ⟨qb, hqb, xb⟩ := (HG0.out.below BF.out).rL j hjl
 subst hqb
 rw [HV.out] at xb
 obtain ⟨y0, y1, y2⟩ := T0.out.cells
 have xr0 : wa.cell? ⟨w.heap.size + 1, 0, none⟩ = some (.int .i64 rc) := TR.out.cell 0
 have xr1 : wa.cell? ⟨w.heap.size + 1, 1, none⟩ = some (.int .i64 rn) := TR.out.cell 1
 have l1 : w.heap.size < wa.heap.size := by have := SZ.out; omega
 have l2 : w.heap.size + 1 < wa.heap.size := by have := SZ.out; omega
 have l3 : qb < wa.heap.size := by have := HG0.out.lC qb rfl; have := SZ.out; omega
 go_wp2_with (fail)
 refine wp_region_held_drew (S := fun w1 => Below wa.heap.size wa w1) (by kernel_rfl) ((Below.refl _ _).drew) (fun hq => ?_)
 refine tkI 0 10 (v := ?_) rfl rfl ?_ ?_
 rotate_left
 · intro w1 hSw; obtain ⟨hcS, hfS⟩ := bcell hSw; go_simp; (try with_reducible rfl)
 (try simp only [Act.put, pu1, pu2, pu3])
 refine tkI 1 11 (v := ?_) rfl rfl ?_ ?_
 rotate_left
 · intro w1 hSw; obtain ⟨hcS, hfS⟩ := bcell hSw; go_simp; (try with_reducible rfl)
 (try simp only [Act.put, pu1, pu2, pu3])
 refine tkI 2 12 (v := ?_) rfl rfl ?_ ?_
 rotate_left
 · intro w1 hSw; obtain ⟨hcS, hfS⟩ := bcell hSw; go_simp; (try with_reducible rfl)
 (try simp only [Act.put, pu1, pu2, pu3])
 refine tkI 3 13 (v := ?_) rfl rfl ?_ ?_
 rotate_left
 · intro w1 hSw; obtain ⟨hcS, hfS⟩ := bcell hSw; go_simp; (try with_reducible rfl)
 (try simp only [Act.put, pu1, pu2, pu3])
 refine tkI 4 14 (v := ?_) rfl rfl ?_ ?_
 rotate_left
 · intro w1 hSw; obtain ⟨hcS, hfS⟩ := bcell hSw; go_simp; (try with_reducible rfl)
 (try simp only [Act.put, pu1, pu2, pu3])
 refine tkI 5 15 (v := ?_) rfl rfl ?_ ?_
 rotate_left
 · intro w1 hSw; obtain ⟨hcS, hfS⟩ := bcell hSw; go_simp; (try with_reducible rfl)
 (try simp only [Act.put, pu1, pu2, pu3])
 refine tkI 6 16 (v := ?_) rfl rfl ?_ ?_
 rotate_left
 · intro w1 hSw; obtain ⟨hcS, hfS⟩ := bcell hSw; go_simp; (try with_reducible rfl)
 (try simp only [Act.put, pu1, pu2, pu3])
 refine tkI 7 17 (v := ?_) rfl rfl ?_ ?_
 rotate_left
 · intro w1 hSw; obtain ⟨hcS, hfS⟩ := bcell hSw; go_simp; (try with_reducible rfl)
 (try simp only [Act.put, pu1, pu2, pu3])
 refine tkI 8 18 (v := ?_) rfl rfl ?_ ?_
 rotate_left
 · intro w1 hSw; obtain ⟨hcS, hfS⟩ := bcell hSw; go_simp; (try with_reducible rfl)
 (try simp only [Act.put, pu1, pu2, pu3])
 refine tkI 9 19 (v := ?_) rfl rfl ?_ ?_
 rotate_left
 · intro w1 hSw; obtain ⟨hcS, hfS⟩ := bcell hSw; go_simp; (try with_reducible rfl)
 (try simp only [Act.put, pu1, pu2, pu3])
 refine wpAnyH_done (by kernel_rfl) ?_ _
 have BF := Lib.hid (Below.and BF.out hq)
 have T0b := Lib.hid (T0.out.drew)
 have T1b := Lib.hid (T1.out.drew)
 have TRb : Hid (Bkk wa.drew (w.heap.size + 1) 49 #[.int .i64 rc, .int .i64 rn, .int .i64 1, .int .i64 rx, .int .i64 ry]) := TR.out
 have SZb : Hid (w.heap.size + 3 ≤ wa.drew.heap.size) := SZ.out
 have BFb := BF
 clear y0 y1 y2 xr0 xr1 l1 l2 l3 xb hq T0 T1 TR SZ BF e3
 obtain ⟨WB, hW⟩ : ∃ X, X = wa.drew := ⟨_, rfl⟩
 rw [← hW] at T0b T1b TRb SZb BFb ⊢
 clear hW
 have RLb : Hid (RdI WB (some ⟨qb, 0, none⟩) L) := (HG0.out.below BFb.out).rL
 obtain ⟨y0, y1, y2⟩ := T0b.out.cells
 have l1 : w.heap.size < WB.heap.size := by have := SZb.out; omega
 go_wp2_with (at_builtin; go_loud (refine list_app cI_len rfl _ _ 27 rfl (w.heap.size + 3) 3 J (.int .i64 0) 8 Try.underlying27 J1.out J2.out J3.out J4.out rfl (by decide) (.slice (some ⟨WB.heap.size, 0, none⟩) 0 0) 0 [] rfl ?o1s1 _ _ L.length L ?m1s1 rfl ?r1s1 ?n1s1 (ints_one _) ?b1s1 ?c1s1 ?d1s1 ?_))
 try case o1s1 => (have := own_base (base' := w.heap.size + 3) (own_nil_new WB 3 1 rfl) (by have := SZb.out; omega); simpa using this)
 try case m1s1 => (rfl)
 try case r1s1 => (exact (RdI.below RLb.out ((Below.refl _ _).alloc (Nat.le_refl _) _)).rd)
 try case r1s1.inl => (exact (RdI.below RLb.out ((Below.refl _ _).alloc (Nat.le_refl _) _)).rd)
 try case r1s1.inr => (exact (RdI.below RLb.out ((Below.refl _ _).alloc (Nat.le_refl _) _)).rd)
 try case n1s1 => (intro e; cases e)
 try case b1s1 => (unfold maxLen; have := HLL.out; omega)
 try case c1s1 => (have := HLL.out; omega)
 try case d1s1 => (have := SZb.out; have := HLL.out; first | omega | (simp; omega))
 intro v1 w1 ho1 hg1 hp1
 obtain ⟨A1, c1, hv1, _⟩ := own_form ho1
 subst hv1
 have ho1' : w1.ownsRow (w.heap.size + 3) 3 1 (.slice A1 L.length c1) L.length (ints L) := by simpa [ints_flat] using ho1
 obtain ⟨q, rfl, hq1, hq2⟩ := own_some ho1' (by rw [HLL.out]; omega)
 have hge : ∀ x, (Value.slice (some ⟨WB.heap.size, 0, none⟩) 0 0).ownBlock = some x → WB.heap.size ≤ x := fun x hx => by simp [Value.ownBlock] at hx; omega
 have BF1 := Lib.hid (Below.trans (BFb.out.alloc BFb.out.size (.cells #[] 3)) (Below.of_grown hg1 (by have := SZb.out; simp; omega) (fun x hx => by have := hge x hx; have := SZb.out; omega)))
 have SZ1 := Lib.hid (show w.heap.size + 3 ≤ w1.heap.size by have := hg1.size; have := SZb.out; simp at *; omega)
 have T01 := Lib.hid ((T0b.out.alloc (.cells #[] 3)).grown hg1 (fun e => by have := hge _ e.symm; have := SZb.out; omega))
 have T11 := Lib.hid ((T1b.out.alloc (.cells #[] 3)).grown hg1 (fun e => by have := hge _ e.symm; have := SZb.out; omega))
 have TR1 : Hid (Bkk w1 (w.heap.size + 1) 49 #[.int .i64 rc, .int .i64 rn, .int .i64 1, .int .i64 rx, .int .i64 ry]) := (hg1.block _ (by have := SZb.out; simp; omega) (fun e => by have := hge _ e.symm; have := SZb.out; omega)).trans (TRb.out.alloc (.cells #[] 3))
 have OF := Lib.hid ho1'
 clear ho1 hg1 hp1 hge ho1' T0b T1b TRb SZb BFb RLb y0 y1 y2 l1
 obtain ⟨y0, y1, y2⟩ := T01.out.cells
 have yf := T01.out.frozen
 have n1 : ¬ q = w.heap.size := by omega
 have n2 : ¬ w.heap.size = q := by omega
 have l1 : w.heap.size < w1.heap.size := by have := SZ1.out; omega
 have xq : w1.cell? ⟨q, j, none⟩ = some (.int .i64 v) := by rw [OF.out.cellAt j (by simp; omega)]; simp [hjl, HV.out]
 have ff := fun i => OF.out.frozenAt i
 have xr0 : w1.cell? ⟨w.heap.size + 1, 0, none⟩ = some (.int .i64 rc) := TR1.out.cell 0
 have xr1 : w1.cell? ⟨w.heap.size + 1, 1, none⟩ = some (.int .i64 rn) := TR1.out.cell 1
 have n3 : ¬ q = w.heap.size + 1 := by omega
 have n4 : ¬ w.heap.size + 1 = q := by omega
 have l2 : w.heap.size + 1 < w1.heap.size := by have := SZ1.out; omega
 have l3 : q < w1.heap.size := hq2
 go_wp2_with (fail)
 clear y0 y1 y2 yf l1 l2 l3 xr0 xr1 xq ff n3 n4
 have T0a := Lib.hid ((T01.out.set2 (.slice (some ⟨q, 0, none⟩) L.length c1)).far n2 (j := j) (.int .i64 rn))
 have T1a := Lib.hid ((T11.out.far (show w.heap.size + 1 + 1 ≠ w.heap.size by omega) (j := 2) (.slice (some ⟨q, 0, none⟩) L.length c1)).far (show w.heap.size + 1 + 1 ≠ q by omega) (j := j) (.int .i64 rn))
 have TRa := Lib.hid ((TR1.out.far (show w.heap.size + 1 ≠ w.heap.size by omega) 2 (.slice (some ⟨q, 0, none⟩) L.length c1)).far (show w.heap.size + 1 ≠ q by omega) j (.int .i64 rn))
 have OFa : Hid (((w1.setCell ⟨w.heap.size, 2, none⟩ (.slice (some ⟨q, 0, none⟩) L.length c1)).setCell ⟨q, j, none⟩ (.int .i64 rn)).ownsRow (w.heap.size + 3) 3 1 (.slice (some ⟨q, 0, none⟩) L.length c1) L.length (ints (L.set j rn))) := by
  have h := (own_set1 j (.int .i64 rn) (by simp; omega) (own_put OF.out (b := w.heap.size) (by omega) 2 (.slice (some ⟨q, 0, none⟩) L.length c1))).1
  have e1 : (ints L).set j (.int .i64 rn) = ints (L.set j rn) := by simp [ints, List.map_set]
  rw [e1] at h
  exact h
 have HBa := Lib.hid ((BF1.out.setCell (Nat.le_refl w.heap.size) (p := ⟨w.heap.size, 2, none⟩) (.slice (some ⟨q, 0, none⟩) L.length c1)).setCell (show w.heap.size ≤ q by omega) (p := ⟨q, j, none⟩) (.int .i64 rn))
 have SZa : Hid (w.heap.size + 3 ≤ ((w1.setCell ⟨w.heap.size, 2, none⟩ (.slice (some ⟨q, 0, none⟩) L.length c1)).setCell ⟨q, j, none⟩ (.int .i64 rn)).heap.size) := by show _ ≤ _; have := SZ1.out; simp; omega
 obtain ⟨WA, hW⟩ : ∃ X, X = (w1.setCell ⟨w.heap.size, 2, none⟩ (.slice (some ⟨q, 0, none⟩) L.length c1)).setCell ⟨q, j, none⟩ (.int .i64 rn) := ⟨_, rfl⟩
 rw [← hW] at T0a T1a TRa OFa HBa SZa ⊢
 clear hW T01 T11 TR1 OF BF1 SZ1
 have LE1 : (L.set j rn).length = L.length := List.length_set
 have QN := Lib.hid (show w.heap.size ≤ q by have := (own_at OFa.out q rfl).1; omega)
 have GL : Hid (GmR WA A a B b (some ⟨q, 0, none⟩) c1 E F (L.set j rn)) :=
  ⟨RdF.below HG0.out.rE HBa.out, RdI.below HG0.out.rF HBa.out, RdI.of_own OFa.out, HG0.out.cA, HG0.out.cB, (by rw [LE1]; exact (own_cap OFa.out).1), HG0.out.nA, HG0.out.nB, .inr ⟨q, rfl⟩, (fun x hx => Nat.lt_of_lt_of_le (HG0.out.lA x hx) HBa.out.size), (fun x hx => Nat.lt_of_lt_of_le (HG0.out.lB x hx) HBa.out.size), (fun x hx => (own_at OFa.out x hx).2)⟩
 have h := l2At A a B b (some ⟨q, 0, none⟩) c1 E F (L.set j rn) rc WA (by omega) GL.out.rE
 rw [LE1] at h
 refine h.mono ?_
 clear h
 rintro e wc ⟨rfl, hb⟩
 have T0 := Lib.hid (T0a.out.below hb (by have := SZa.out; omega))
 have T1 := Lib.hid (T1a.out.below hb (by have := SZa.out; omega))
 have TR := Lib.hid (TRa.out.below hb)
 have BF := Lib.hid (Below.and HBa.out hb)
 have GLc := Lib.hid (GL.out.below hb)
 have SZ := Lib.hid (show w.heap.size + 3 ≤ wc.heap.size by have := hb.size; have := SZa.out; omega)
 have HLE := Lib.hid LE1
 clear hb T0a T1a TRa OFa HBa SZa GL LE1
 obtain ⟨y0, y1, y2⟩ := T0.out.cells
 obtain ⟨z0, z1, z2⟩ := T1.out.cells
 have zf := T1.out.frozen
 have xr0 : wc.cell? ⟨w.heap.size + 1, 0, none⟩ = some (.int .i64 rc) := TR.out.cell 0
 have xr1 : wc.cell? ⟨w.heap.size + 1, 1, none⟩ = some (.int .i64 rn) := TR.out.cell 1
 have xr2 : wc.cell? ⟨w.heap.size + 1, 2, none⟩ = some (.int .i64 1) := TR.out.cell 2
 have xr3 : wc.cell? ⟨w.heap.size + 1, 3, none⟩ = some (.int .i64 rx) := TR.out.cell 3
 have xr4 : wc.cell? ⟨w.heap.size + 1, 4, none⟩ = some (.int .i64 ry) := TR.out.cell 4
 have l1 : w.heap.size < wc.heap.size := by have := SZ.out; omega
 have l2 : w.heap.size + 1 < wc.heap.size := by have := SZ.out; omega
 have pA : ∀ x, A = some ⟨x, 0, none⟩ → x ≠ w.heap.size + 1 + 1 := fun x hx => by have := HG0.out.lA x hx; omega
 have pB : ∀ x, B = some ⟨x, 0, none⟩ → x ≠ w.heap.size + 1 + 1 := fun x hx => by have := HG0.out.lB x hx; omega
 have pC : ∀ x, (some ⟨q, 0, none⟩ : Option Addr) = some ⟨x, 0, none⟩ → x ≠ w.heap.size + 1 + 1 := fun x hx => by cases hx; omega
 go_wp2
 refine bodyPost_ret (v := .tuple #[.agg #[.slice A E.length a, .slice B F.length b, .slice (some ⟨q, 0, none⟩) L.length c1], .int .i64 4]) (by simp [results, Try.results56, go_sem, y0, y1, y2, z0, z1, z2]) rfl ⟨A, a, B, b, some ⟨q, 0, none⟩, c1, by rw [HLE.out], ?_, Src.same _ _, Src.same _ _, Src.new QN.out⟩
 refine ⟨?_, ?_⟩
 · iterate 3 (refine GmR.put ?_ _ _ _ pA pB pC)
   exact GLc.out
 · iterate 3 (refine Below.setCell ?_ (by first | (simp; done) | (simp; omega)) _)
   exact BF.out
theorem joinAll (A : Option Addr) (a : Nat) (B : Option Addr) (b : Nat) (C : Option Addr) (d : Nat) (E : List Fig) (F L : List Int) (c : Int) (w : World) (hE : E.length ≤ 4) (hc : 1 ≤ c ∧ c ≤ 4) (hg : GmR w A a B b C d E F L) :
 Calls Try.prog 87 #[gameV A E.length a B F.length b C L.length d, .int .i64 c] w fun e w' => ∃ A' a', e = .returned (gameV A' (E.take (ltF c E) ++ ⟨c, c - 1, c - 1, 3, 0⟩ :: E.drop (ltF c E)).length a' B F.length b C L.length d) ∧ GmR w' A' a' B b C d (E.take (ltF c E) ++ ⟨c, c - 1, c - 1, 3, 0⟩ :: E.drop (ltF c E)) F L ∧ (∀ x, A' = some ⟨x, 0, none⟩ → w.heap.size ≤ x) ∧ Below w.heap.size w w' := by
 rcases hg.nA with ⟨rfl, rfl⟩ | ⟨g, rfl⟩
 · rcases E with _ | ⟨e, E⟩
   · exact l2JoinN B b C d F L c w hc hg
   · obtain ⟨g, h, _⟩ := hg.rE 0 (by simp)
     cases h
 · exact l2JoinS g a B b C d E F L c w hE hc hg
set_option maxRecDepth 100000 in
set_option maxHeartbeats 4000000 in
theorem doJoin (A : Option Addr) (a : Nat) (B : Option Addr) (b : Nat) (C : Option Addr) (d : Nat) (E : List Fig) (F L : List Int) (rc rn rx ry : Int) (w : World) (hn : nullB ⟨rc, rn, 1, rx, ry⟩ = false) (j : Nat) (v : Int) (hj : rc - 1 = (j : Int)) (hjl : j < L.length) (hv : L[j]'hjl = v) (hc : 1 ≤ rc ∧ rc ≤ 4) (hL : L.length = 4) (hlt : ¬ rn ≤ v) (hE : E.length ≤ 4) (hp : posF rc E < 0) (hg : GmR w A a B b C d E F L) :
 Calls Try.prog 56 #[gameV A E.length a B F.length b C L.length d, .agg #[.int .i64 rc, .int .i64 rn, .int .i64 1, .int .i64 rx, .int .i64 ry]] w (DoP A B C (((E.take (ltF rc E) ++ ⟨rc, rc - 1, rc - 1, 3, 0⟩ :: E.drop (ltF rc E)), F, (L.set j rn)), 0) w) := by
 obtain ⟨J, hi, hz0, hz1, hz2⟩ := parts_of infoInt'
 have J1 := Lib.hid hi
 have J2 := Lib.hid hz0
 have J3 := Lib.hid hz1
 have J4 := Lib.hid hz2
 clear hi hz0 hz1 hz2
 show Calls Try.prog 56 #[gameV A E.length a B F.length b C L.length d, .agg #[.int .i64 rc, .int .i64 rn, .int .i64 1, .int .i64 rx, .int .i64 ry]] w fun e w' => ∃ A' a' B' b' C' d', e = .returned (.tuple #[gameV A' (E.take (ltF rc E) ++ ⟨rc, rc - 1, rc - 1, 3, 0⟩ :: E.drop (ltF rc E)).length a' B' F.length b' C' (L.set j rn).length d', .int .i64 0]) ∧ (GmR w' A' a' B' b' C' d' (E.take (ltF rc E) ++ ⟨rc, rc - 1, rc - 1, 3, 0⟩ :: E.drop (ltF rc E)) F (L.set j rn) ∧ Below w.heap.size w w') ∧ Src w A A' ∧ Src w B B' ∧ Src w C C'
 have BW : Hid (Below w.heap.size w (((w.alloc (.cells #[.slice A E.length a, .slice B F.length b, .slice C L.length d] 29)).alloc (.cells #[.int .i64 rc, .int .i64 rn, .int .i64 1, .int .i64 rx, .int .i64 ry] 49)).alloc (.cells #[.slice none 0 0, .slice none 0 0, .slice none 0 0] 29))) := ((below_alloc2 w _ _).alloc (by simp; omega) _)
 have HSW : Hid ((((w.alloc (.cells #[.slice A E.length a, .slice B F.length b, .slice C L.length d] 29)).alloc (.cells #[.int .i64 rc, .int .i64 rn, .int .i64 1, .int .i64 rx, .int .i64 ry] 49)).alloc (.cells #[.slice none 0 0, .slice none 0 0, .slice none 0 0] 29)).heap.size = w.heap.size + 3) := by show _ = _; simp
 have K0 : Hid (Three (((w.alloc (.cells #[.slice A E.length a, .slice B F.length b, .slice C L.length d] 29)).alloc (.cells #[.int .i64 rc, .int .i64 rn, .int .i64 1, .int .i64 rx, .int .i64 ry] 49)).alloc (.cells #[.slice none 0 0, .slice none 0 0, .slice none 0 0] 29)) w.heap.size 29 (.slice A E.length a) (.slice B F.length b) (.slice C L.length d)) := ((Three.new w).alloc _).alloc _
 have KR : Hid (Bkk (((w.alloc (.cells #[.slice A E.length a, .slice B F.length b, .slice C L.length d] 29)).alloc (.cells #[.int .i64 rc, .int .i64 rn, .int .i64 1, .int .i64 rx, .int .i64 ry] 49)).alloc (.cells #[.slice none 0 0, .slice none 0 0, .slice none 0 0] 29)) (w.heap.size + 1) 49 #[.int .i64 rc, .int .i64 rn, .int .i64 1, .int .i64 rx, .int .i64 ry]) := by have := (Bkk.new (t := 49) (cs := #[.int .i64 rc, .int .i64 rn, .int .i64 1, .int .i64 rx, .int .i64 ry]) (w.alloc (.cells #[.slice A E.length a, .slice B F.length b, .slice C L.length d] 29))).alloc (.cells #[.slice none 0 0, .slice none 0 0, .slice none 0 0] 29); simpa [Hid] using this
 have K1 : Hid (Three (((w.alloc (.cells #[.slice A E.length a, .slice B F.length b, .slice C L.length d] 29)).alloc (.cells #[.int .i64 rc, .int .i64 rn, .int .i64 1, .int .i64 rx, .int .i64 ry] 49)).alloc (.cells #[.slice none 0 0, .slice none 0 0, .slice none 0 0] 29)) (w.heap.size + 1 + 1) 29 (.slice none 0 0) (.slice none 0 0) (.slice none 0 0)) := by have := Three.new (t := 29) (u0 := .slice none 0 0) (u1 := .slice none 0 0) (u2 := .slice none 0 0) ((w.alloc (.cells #[.slice A E.length a, .slice B F.length b, .slice C L.length d] 29)).alloc (.cells #[.int .i64 rc, .int .i64 rn, .int .i64 1, .int .i64 rx, .int .i64 ry] 49)); simpa [Hid] using this
 have HG0 := Lib.hid hg
 have HN := Lib.hid hn
 have q1 : IntKind.i64.wrap (rc - 1) = (j : Int) := by rw [hj]; exact IntWalk.i64_in _ (by omega)
 have i2 : (0 : Int) ≤ (j : Int) := by omega
 have i3 : (j : Int) < (L.length : Int) := by omega
 have HV := Lib.hid hv
 clear hj hv
 have e3 : decide (rn ≤ v) = false := by simpa using hlt
 have HLL := Lib.hid hL
 clear hL
 have e6 : decide (0 ≤ posF rc E) = false := by simp; omega
 clear hg hn
 unfold gameV
 go_enter Try.func56, Try.ntmps56
 go_wp2_with (fail)
 refine (l1None ⟨rc, rn, 1, rx, ry⟩ _).mono ?_
 rintro e wa ⟨rfl, hb⟩
 rw [HN.out]
 have BF := Lib.hid (Below.and BW.out hb)
 have T0 := Lib.hid (K0.out.below hb (by rw [HSW.out]; omega))
 have T1 := Lib.hid (K1.out.below hb (by rw [HSW.out]; omega))
 have TR := Lib.hid (KR.out.below hb)
 have SZ := Lib.hid (show w.heap.size + 3 ≤ wa.heap.size by have := hb.size; rw [HSW.out] at this; omega)
 clear hb K0 K1 KR BW HSW
 obtain ⟨qb, hqb, xb⟩ := (HG0.out.below BF.out).rL j hjl
 subst hqb
 rw [HV.out] at xb
 obtain ⟨y0, y1, y2⟩ := T0.out.cells
 have xr0 : wa.cell? ⟨w.heap.size + 1, 0, none⟩ = some (.int .i64 rc) := TR.out.cell 0
 have xr1 : wa.cell? ⟨w.heap.size + 1, 1, none⟩ = some (.int .i64 rn) := TR.out.cell 1
 have l1 : w.heap.size < wa.heap.size := by have := SZ.out; omega
 have l2 : w.heap.size + 1 < wa.heap.size := by have := SZ.out; omega
 have l3 : qb < wa.heap.size := by have := HG0.out.lC qb rfl; have := SZ.out; omega
 go_wp2_with (fail)
 refine wp_region_held_drew (S := fun w1 => Below wa.heap.size wa w1) (by kernel_rfl) ((Below.refl _ _).drew) (fun hq => ?_)
 refine tkI 0 10 (v := ?_) rfl rfl ?_ ?_
 rotate_left
 · intro w1 hSw; obtain ⟨hcS, hfS⟩ := bcell hSw; go_simp; (try with_reducible rfl)
 (try simp only [Act.put, pu1, pu2, pu3])
 refine tkI 1 11 (v := ?_) rfl rfl ?_ ?_
 rotate_left
 · intro w1 hSw; obtain ⟨hcS, hfS⟩ := bcell hSw; go_simp; (try with_reducible rfl)
 (try simp only [Act.put, pu1, pu2, pu3])
 refine tkI 2 12 (v := ?_) rfl rfl ?_ ?_
 rotate_left
 · intro w1 hSw; obtain ⟨hcS, hfS⟩ := bcell hSw; go_simp; (try with_reducible rfl)
 (try simp only [Act.put, pu1, pu2, pu3])
 refine tkI 3 13 (v := ?_) rfl rfl ?_ ?_
 rotate_left
 · intro w1 hSw; obtain ⟨hcS, hfS⟩ := bcell hSw; go_simp; (try with_reducible rfl)
 (try simp only [Act.put, pu1, pu2, pu3])
 refine tkI 4 14 (v := ?_) rfl rfl ?_ ?_
 rotate_left
 · intro w1 hSw; obtain ⟨hcS, hfS⟩ := bcell hSw; go_simp; (try with_reducible rfl)
 (try simp only [Act.put, pu1, pu2, pu3])
 refine tkI 5 15 (v := ?_) rfl rfl ?_ ?_
 rotate_left
 · intro w1 hSw; obtain ⟨hcS, hfS⟩ := bcell hSw; go_simp; (try with_reducible rfl)
 (try simp only [Act.put, pu1, pu2, pu3])
 refine tkI 6 16 (v := ?_) rfl rfl ?_ ?_
 rotate_left
 · intro w1 hSw; obtain ⟨hcS, hfS⟩ := bcell hSw; go_simp; (try with_reducible rfl)
 (try simp only [Act.put, pu1, pu2, pu3])
 refine tkI 7 17 (v := ?_) rfl rfl ?_ ?_
 rotate_left
 · intro w1 hSw; obtain ⟨hcS, hfS⟩ := bcell hSw; go_simp; (try with_reducible rfl)
 (try simp only [Act.put, pu1, pu2, pu3])
 refine tkI 8 18 (v := ?_) rfl rfl ?_ ?_
 rotate_left
 · intro w1 hSw; obtain ⟨hcS, hfS⟩ := bcell hSw; go_simp; (try with_reducible rfl)
 (try simp only [Act.put, pu1, pu2, pu3])
 refine tkI 9 19 (v := ?_) rfl rfl ?_ ?_
 rotate_left
 · intro w1 hSw; obtain ⟨hcS, hfS⟩ := bcell hSw; go_simp; (try with_reducible rfl)
 (try simp only [Act.put, pu1, pu2, pu3])
 refine wpAnyH_done (by kernel_rfl) ?_ _
 have BF := Lib.hid (Below.and BF.out hq)
 have T0b := Lib.hid (T0.out.drew)
 have T1b := Lib.hid (T1.out.drew)
 have TRb : Hid (Bkk wa.drew (w.heap.size + 1) 49 #[.int .i64 rc, .int .i64 rn, .int .i64 1, .int .i64 rx, .int .i64 ry]) := TR.out
 have SZb : Hid (w.heap.size + 3 ≤ wa.drew.heap.size) := SZ.out
 have BFb := BF
 clear y0 y1 y2 xr0 xr1 l1 l2 l3 xb hq T0 T1 TR SZ BF e3
 obtain ⟨WB, hW⟩ : ∃ X, X = wa.drew := ⟨_, rfl⟩
 rw [← hW] at T0b T1b TRb SZb BFb ⊢
 clear hW
 have RLb : Hid (RdI WB (some ⟨qb, 0, none⟩) L) := (HG0.out.below BFb.out).rL
 obtain ⟨y0, y1, y2⟩ := T0b.out.cells
 have l1 : w.heap.size < WB.heap.size := by have := SZb.out; omega
 go_wp2_with (at_builtin; go_loud (refine list_app cI_len rfl _ _ 27 rfl (w.heap.size + 3) 3 J (.int .i64 0) 8 Try.underlying27 J1.out J2.out J3.out J4.out rfl (by decide) (.slice (some ⟨WB.heap.size, 0, none⟩) 0 0) 0 [] rfl ?o1s1 _ _ L.length L ?m1s1 rfl ?r1s1 ?n1s1 (ints_one _) ?b1s1 ?c1s1 ?d1s1 ?_))
 try case o1s1 => (have := own_base (base' := w.heap.size + 3) (own_nil_new WB 3 1 rfl) (by have := SZb.out; omega); simpa using this)
 try case m1s1 => (rfl)
 try case r1s1 => (exact (RdI.below RLb.out ((Below.refl _ _).alloc (Nat.le_refl _) _)).rd)
 try case r1s1.inl => (exact (RdI.below RLb.out ((Below.refl _ _).alloc (Nat.le_refl _) _)).rd)
 try case r1s1.inr => (exact (RdI.below RLb.out ((Below.refl _ _).alloc (Nat.le_refl _) _)).rd)
 try case n1s1 => (intro e; cases e)
 try case b1s1 => (unfold maxLen; have := HLL.out; omega)
 try case c1s1 => (have := HLL.out; omega)
 try case d1s1 => (have := SZb.out; have := HLL.out; first | omega | (simp; omega))
 intro v1 w1 ho1 hg1 hp1
 obtain ⟨A1, c1, hv1, _⟩ := own_form ho1
 subst hv1
 have ho1' : w1.ownsRow (w.heap.size + 3) 3 1 (.slice A1 L.length c1) L.length (ints L) := by simpa [ints_flat] using ho1
 obtain ⟨q, rfl, hq1, hq2⟩ := own_some ho1' (by rw [HLL.out]; omega)
 have hge : ∀ x, (Value.slice (some ⟨WB.heap.size, 0, none⟩) 0 0).ownBlock = some x → WB.heap.size ≤ x := fun x hx => by simp [Value.ownBlock] at hx; omega
 have BF1 := Lib.hid (Below.trans (BFb.out.alloc BFb.out.size (.cells #[] 3)) (Below.of_grown hg1 (by have := SZb.out; simp; omega) (fun x hx => by have := hge x hx; have := SZb.out; omega)))
 have SZ1 := Lib.hid (show w.heap.size + 3 ≤ w1.heap.size by have := hg1.size; have := SZb.out; simp at *; omega)
 have T01 := Lib.hid ((T0b.out.alloc (.cells #[] 3)).grown hg1 (fun e => by have := hge _ e.symm; have := SZb.out; omega))
 have T11 := Lib.hid ((T1b.out.alloc (.cells #[] 3)).grown hg1 (fun e => by have := hge _ e.symm; have := SZb.out; omega))
 have TR1 : Hid (Bkk w1 (w.heap.size + 1) 49 #[.int .i64 rc, .int .i64 rn, .int .i64 1, .int .i64 rx, .int .i64 ry]) := (hg1.block _ (by have := SZb.out; simp; omega) (fun e => by have := hge _ e.symm; have := SZb.out; omega)).trans (TRb.out.alloc (.cells #[] 3))
 have OF := Lib.hid ho1'
 clear ho1 hg1 hp1 hge ho1' T0b T1b TRb SZb BFb RLb y0 y1 y2 l1
 obtain ⟨y0, y1, y2⟩ := T01.out.cells
 have yf := T01.out.frozen
 have n1 : ¬ q = w.heap.size := by omega
 have n2 : ¬ w.heap.size = q := by omega
 have l1 : w.heap.size < w1.heap.size := by have := SZ1.out; omega
 have xq : w1.cell? ⟨q, j, none⟩ = some (.int .i64 v) := by rw [OF.out.cellAt j (by simp; omega)]; simp [hjl, HV.out]
 have ff := fun i => OF.out.frozenAt i
 have xr0 : w1.cell? ⟨w.heap.size + 1, 0, none⟩ = some (.int .i64 rc) := TR1.out.cell 0
 have xr1 : w1.cell? ⟨w.heap.size + 1, 1, none⟩ = some (.int .i64 rn) := TR1.out.cell 1
 have n3 : ¬ q = w.heap.size + 1 := by omega
 have n4 : ¬ w.heap.size + 1 = q := by omega
 have l2 : w.heap.size + 1 < w1.heap.size := by have := SZ1.out; omega
 have l3 : q < w1.heap.size := hq2
 go_wp2_with (fail)
 clear y0 y1 y2 yf l1 l2 l3 xr0 xr1 xq ff n3 n4
 have T0a := Lib.hid ((T01.out.set2 (.slice (some ⟨q, 0, none⟩) L.length c1)).far n2 (j := j) (.int .i64 rn))
 have T1a := Lib.hid ((T11.out.far (show w.heap.size + 1 + 1 ≠ w.heap.size by omega) (j := 2) (.slice (some ⟨q, 0, none⟩) L.length c1)).far (show w.heap.size + 1 + 1 ≠ q by omega) (j := j) (.int .i64 rn))
 have TRa := Lib.hid ((TR1.out.far (show w.heap.size + 1 ≠ w.heap.size by omega) 2 (.slice (some ⟨q, 0, none⟩) L.length c1)).far (show w.heap.size + 1 ≠ q by omega) j (.int .i64 rn))
 have OFa : Hid (((w1.setCell ⟨w.heap.size, 2, none⟩ (.slice (some ⟨q, 0, none⟩) L.length c1)).setCell ⟨q, j, none⟩ (.int .i64 rn)).ownsRow (w.heap.size + 3) 3 1 (.slice (some ⟨q, 0, none⟩) L.length c1) L.length (ints (L.set j rn))) := by
  have h := (own_set1 j (.int .i64 rn) (by simp; omega) (own_put OF.out (b := w.heap.size) (by omega) 2 (.slice (some ⟨q, 0, none⟩) L.length c1))).1
  have e1 : (ints L).set j (.int .i64 rn) = ints (L.set j rn) := by simp [ints, List.map_set]
  rw [e1] at h
  exact h
 have HBa := Lib.hid ((BF1.out.setCell (Nat.le_refl w.heap.size) (p := ⟨w.heap.size, 2, none⟩) (.slice (some ⟨q, 0, none⟩) L.length c1)).setCell (show w.heap.size ≤ q by omega) (p := ⟨q, j, none⟩) (.int .i64 rn))
 have SZa : Hid (w.heap.size + 3 ≤ ((w1.setCell ⟨w.heap.size, 2, none⟩ (.slice (some ⟨q, 0, none⟩) L.length c1)).setCell ⟨q, j, none⟩ (.int .i64 rn)).heap.size) := by show _ ≤ _; have := SZ1.out; simp; omega
 obtain ⟨WA, hW⟩ : ∃ X, X = (w1.setCell ⟨w.heap.size, 2, none⟩ (.slice (some ⟨q, 0, none⟩) L.length c1)).setCell ⟨q, j, none⟩ (.int .i64 rn) := ⟨_, rfl⟩
 rw [← hW] at T0a T1a TRa OFa HBa SZa ⊢
 clear hW T01 T11 TR1 OF BF1 SZ1
 have LE1 : (L.set j rn).length = L.length := List.length_set
 have QN := Lib.hid (show w.heap.size ≤ q by have := (own_at OFa.out q rfl).1; omega)
 have GL : Hid (GmR WA A a B b (some ⟨q, 0, none⟩) c1 E F (L.set j rn)) :=
  ⟨RdF.below HG0.out.rE HBa.out, RdI.below HG0.out.rF HBa.out, RdI.of_own OFa.out, HG0.out.cA, HG0.out.cB, (by rw [LE1]; exact (own_cap OFa.out).1), HG0.out.nA, HG0.out.nB, .inr ⟨q, rfl⟩, (fun x hx => Nat.lt_of_lt_of_le (HG0.out.lA x hx) HBa.out.size), (fun x hx => Nat.lt_of_lt_of_le (HG0.out.lB x hx) HBa.out.size), (fun x hx => (own_at OFa.out x hx).2)⟩
 have h := l2At A a B b (some ⟨q, 0, none⟩) c1 E F (L.set j rn) rc WA (by omega) GL.out.rE
 rw [LE1] at h
 refine h.mono ?_
 clear h
 rintro e wc ⟨rfl, hb⟩
 have T0 := Lib.hid (T0a.out.below hb (by have := SZa.out; omega))
 have T1 := Lib.hid (T1a.out.below hb (by have := SZa.out; omega))
 have TR := Lib.hid (TRa.out.below hb)
 have BF := Lib.hid (Below.and HBa.out hb)
 have GLc := Lib.hid (GL.out.below hb)
 have SZ := Lib.hid (show w.heap.size + 3 ≤ wc.heap.size by have := hb.size; have := SZa.out; omega)
 have HLE := Lib.hid LE1
 clear hb T0a T1a TRa OFa HBa SZa GL LE1
 obtain ⟨y0, y1, y2⟩ := T0.out.cells
 obtain ⟨z0, z1, z2⟩ := T1.out.cells
 have zf := T1.out.frozen
 have xr0 : wc.cell? ⟨w.heap.size + 1, 0, none⟩ = some (.int .i64 rc) := TR.out.cell 0
 have xr1 : wc.cell? ⟨w.heap.size + 1, 1, none⟩ = some (.int .i64 rn) := TR.out.cell 1
 have xr2 : wc.cell? ⟨w.heap.size + 1, 2, none⟩ = some (.int .i64 1) := TR.out.cell 2
 have xr3 : wc.cell? ⟨w.heap.size + 1, 3, none⟩ = some (.int .i64 rx) := TR.out.cell 3
 have xr4 : wc.cell? ⟨w.heap.size + 1, 4, none⟩ = some (.int .i64 ry) := TR.out.cell 4
 have l1 : w.heap.size < wc.heap.size := by have := SZ.out; omega
 have l2 : w.heap.size + 1 < wc.heap.size := by have := SZ.out; omega
 have pA : ∀ x, A = some ⟨x, 0, none⟩ → x ≠ w.heap.size + 1 + 1 := fun x hx => by have := HG0.out.lA x hx; omega
 have pB : ∀ x, B = some ⟨x, 0, none⟩ → x ≠ w.heap.size + 1 + 1 := fun x hx => by have := HG0.out.lB x hx; omega
 have pC : ∀ x, (some ⟨q, 0, none⟩ : Option Addr) = some ⟨x, 0, none⟩ → x ≠ w.heap.size + 1 + 1 := fun x hx => by cases hx; omega
 go_wp2_with (fail)
 have h := joinAll A a B b (some ⟨q, 0, none⟩) c1 E F (L.set j rn) rc wc hE (by omega) GLc.out
 rw [HLE.out] at h
 refine h.mono ?_
 clear h y0 y1 y2 z0 z1 z2 zf xr0 xr1 xr2 xr3 xr4 l1 l2 pA
 rintro e wd ⟨A', a', rfl, hG, hA, hb⟩
 have HSA := Lib.hid (Src.late (w := w) (A := A) (.inr hA) (by have := SZ.out; omega))
 have T1d := Lib.hid (T1.out.below hb (by have := SZ.out; omega))
 have BFd := Lib.hid (Below.and BF.out hb)
 have HGd := Lib.hid hG
 have SZd := Lib.hid (show w.heap.size + 3 ≤ wd.heap.size by have := hb.size; have := SZ.out; omega)
 have pA : ∀ x, A' = some ⟨x, 0, none⟩ → x ≠ w.heap.size + 1 + 1 := fun x hx => by have := hA x hx; have := SZ.out; omega
 clear hb hG hA
 obtain ⟨N3, hN3⟩ : ∃ N3, N3 = (E.take (ltF rc E) ++ ⟨rc, rc - 1, rc - 1, 3, 0⟩ :: E.drop (ltF rc E)).length := ⟨_, rfl⟩
 have HN3 := Lib.hid hN3
 unfold gameV
 rw [← hN3]
 clear hN3
 obtain ⟨z0, z1, z2⟩ := T1d.out.cells
 have zf := T1d.out.frozen
 have l3 : w.heap.size + 1 + 1 < wd.heap.size := by have := SZd.out; omega
 go_wp2
 refine bodyPost_ret (v := .tuple #[.agg #[.slice A' N3 a', .slice B F.length b, .slice (some ⟨q, 0, none⟩) L.length c1], .int .i64 0]) (by simp [results, Try.results56, go_sem, z0, z1, z2]) rfl ⟨A', a', B, b, some ⟨q, 0, none⟩, c1, by rw [HLE.out, HN3.out], ?_, HSA.out, Src.same _ _, Src.new QN.out⟩
 refine ⟨?_, ?_⟩
 · iterate 3 (refine GmR.put ?_ _ _ _ pA pB pC)
   exact HGd.out
 · iterate 3 (refine Below.setCell ?_ (by first | (simp; done) | (simp; omega)) _)
   exact BFd.out
set_option maxRecDepth 100000 in
set_option maxHeartbeats 4000000 in
theorem doAct (A : Option Addr) (a : Nat) (B : Option Addr) (b : Nat) (C : Option Addr) (d : Nat) (E : List Fig) (F L : List Int) (rc rn ro rx ry : Int) (w : World) (hn : nullB ⟨rc, rn, ro, rx, ry⟩ = false) (j : Nat) (v : Int) (hj : rc - 1 = (j : Int)) (hjl : j < L.length) (hv : L[j]'hjl = v) (hc : 1 ≤ rc ∧ rc ≤ 4) (hL : L.length = 4) (hlt : ¬ rn ≤ v) (hE : E.length ≤ 4) (k : Nat) (hk : k < E.length) (hp : posF rc E = (k : Int)) (ho : OkE E) (hf : OkF F) (hrq : rqB ⟨rc, rn, ro, rx, ry⟩ = true) (hro : ro ≠ 1) (hg : GmR w A a B b C d E F L) :
 Calls Try.prog 56 #[gameV A E.length a B F.length b C L.length d, .agg #[.int .i64 rc, .int .i64 rn, .int .i64 ro, .int .i64 rx, .int .i64 ry]] w (DoP A B C (((actG E F (L.set j rn) k E[k] ⟨rc, rn, ro, rx, ry⟩).1.1, (actG E F (L.set j rn) k E[k] ⟨rc, rn, ro, rx, ry⟩).1.2.1, (L.set j rn)), (actG E F (L.set j rn) k E[k] ⟨rc, rn, ro, rx, ry⟩).2) w) := by
 obtain ⟨J, hi, hz0, hz1, hz2⟩ := parts_of infoInt'
 have J1 := Lib.hid hi
 have J2 := Lib.hid hz0
 have J3 := Lib.hid hz1
 have J4 := Lib.hid hz2
 clear hi hz0 hz1 hz2
 show Calls Try.prog 56 #[gameV A E.length a B F.length b C L.length d, .agg #[.int .i64 rc, .int .i64 rn, .int .i64 ro, .int .i64 rx, .int .i64 ry]] w fun e w' => ∃ A' a' B' b' C' d', e = .returned (.tuple #[gameV A' (actG E F (L.set j rn) k E[k] ⟨rc, rn, ro, rx, ry⟩).1.1.length a' B' (actG E F (L.set j rn) k E[k] ⟨rc, rn, ro, rx, ry⟩).1.2.1.length b' C' (L.set j rn).length d', .int .i64 (actG E F (L.set j rn) k E[k] ⟨rc, rn, ro, rx, ry⟩).2]) ∧ (GmR w' A' a' B' b' C' d' (actG E F (L.set j rn) k E[k] ⟨rc, rn, ro, rx, ry⟩).1.1 (actG E F (L.set j rn) k E[k] ⟨rc, rn, ro, rx, ry⟩).1.2.1 (L.set j rn) ∧ Below w.heap.size w w') ∧ Src w A A' ∧ Src w B B' ∧ Src w C C'
 obtain ⟨XE, hXE⟩ : ∃ X, X = (actG E F (L.set j rn) k E[k] ⟨rc, rn, ro, rx, ry⟩).1.1 := ⟨_, rfl⟩
 obtain ⟨XF, hXF⟩ : ∃ X, X = (actG E F (L.set j rn) k E[k] ⟨rc, rn, ro, rx, ry⟩).1.2.1 := ⟨_, rfl⟩
 obtain ⟨XC, hXC⟩ : ∃ X, X = (actG E F (L.set j rn) k E[k] ⟨rc, rn, ro, rx, ry⟩).2 := ⟨_, rfl⟩
 rw [← hXE, ← hXF, ← hXC]
 have HXE := Lib.hid hXE
 have HXF := Lib.hid hXF
 have HXC := Lib.hid hXC
 clear hXE hXF hXC
 have BW : Hid (Below w.heap.size w (((w.alloc (.cells #[.slice A E.length a, .slice B F.length b, .slice C L.length d] 29)).alloc (.cells #[.int .i64 rc, .int .i64 rn, .int .i64 ro, .int .i64 rx, .int .i64 ry] 49)).alloc (.cells #[.slice none 0 0, .slice none 0 0, .slice none 0 0] 29))) := ((below_alloc2 w _ _).alloc (by simp; omega) _)
 have HSW : Hid ((((w.alloc (.cells #[.slice A E.length a, .slice B F.length b, .slice C L.length d] 29)).alloc (.cells #[.int .i64 rc, .int .i64 rn, .int .i64 ro, .int .i64 rx, .int .i64 ry] 49)).alloc (.cells #[.slice none 0 0, .slice none 0 0, .slice none 0 0] 29)).heap.size = w.heap.size + 3) := by show _ = _; simp
 have K0 : Hid (Three (((w.alloc (.cells #[.slice A E.length a, .slice B F.length b, .slice C L.length d] 29)).alloc (.cells #[.int .i64 rc, .int .i64 rn, .int .i64 ro, .int .i64 rx, .int .i64 ry] 49)).alloc (.cells #[.slice none 0 0, .slice none 0 0, .slice none 0 0] 29)) w.heap.size 29 (.slice A E.length a) (.slice B F.length b) (.slice C L.length d)) := ((Three.new w).alloc _).alloc _
 have KR : Hid (Bkk (((w.alloc (.cells #[.slice A E.length a, .slice B F.length b, .slice C L.length d] 29)).alloc (.cells #[.int .i64 rc, .int .i64 rn, .int .i64 ro, .int .i64 rx, .int .i64 ry] 49)).alloc (.cells #[.slice none 0 0, .slice none 0 0, .slice none 0 0] 29)) (w.heap.size + 1) 49 #[.int .i64 rc, .int .i64 rn, .int .i64 ro, .int .i64 rx, .int .i64 ry]) := by have := (Bkk.new (t := 49) (cs := #[.int .i64 rc, .int .i64 rn, .int .i64 ro, .int .i64 rx, .int .i64 ry]) (w.alloc (.cells #[.slice A E.length a, .slice B F.length b, .slice C L.length d] 29))).alloc (.cells #[.slice none 0 0, .slice none 0 0, .slice none 0 0] 29); simpa [Hid] using this
 have K1 : Hid (Three (((w.alloc (.cells #[.slice A E.length a, .slice B F.length b, .slice C L.length d] 29)).alloc (.cells #[.int .i64 rc, .int .i64 rn, .int .i64 ro, .int .i64 rx, .int .i64 ry] 49)).alloc (.cells #[.slice none 0 0, .slice none 0 0, .slice none 0 0] 29)) (w.heap.size + 1 + 1) 29 (.slice none 0 0) (.slice none 0 0) (.slice none 0 0)) := by have := Three.new (t := 29) (u0 := .slice none 0 0) (u1 := .slice none 0 0) (u2 := .slice none 0 0) ((w.alloc (.cells #[.slice A E.length a, .slice B F.length b, .slice C L.length d] 29)).alloc (.cells #[.int .i64 rc, .int .i64 rn, .int .i64 ro, .int .i64 rx, .int .i64 ry] 49)); simpa [Hid] using this
 have HG0 := Lib.hid hg
 have HN := Lib.hid hn
 have q1 : IntKind.i64.wrap (rc - 1) = (j : Int) := by rw [hj]; exact IntWalk.i64_in _ (by omega)
 have i2 : (0 : Int) ≤ (j : Int) := by omega
 have i3 : (j : Int) < (L.length : Int) := by omega
 have HV := Lib.hid hv
 clear hj hv
 have e3 : decide (rn ≤ v) = false := by simpa using hlt
 have HLL := Lib.hid hL
 clear hL
 have e5 : (ro == 1) = false := by simpa using hro
 have HP := Lib.hid hp
 have HO := Lib.hid ho
 have HRQ := Lib.hid hrq
 have e6 : decide ((k : Int) < 0) = false := by simp; try omega
 clear hp ho hrq
 clear hg hn
 unfold gameV
 go_enter Try.func56, Try.ntmps56
 go_wp2_with (fail)
 refine (l1None ⟨rc, rn, ro, rx, ry⟩ _).mono ?_
 rintro e wa ⟨rfl, hb⟩
 rw [HN.out]
 have BF := Lib.hid (Below.and BW.out hb)
 have T0 := Lib.hid (K0.out.below hb (by rw [HSW.out]; omega))
 have T1 := Lib.hid (K1.out.below hb (by rw [HSW.out]; omega))
 have TR := Lib.hid (KR.out.below hb)
 have SZ := Lib.hid (show w.heap.size + 3 ≤ wa.heap.size by have := hb.size; rw [HSW.out] at this; omega)
 clear hb K0 K1 KR BW HSW
 obtain ⟨qb, hqb, xb⟩ := (HG0.out.below BF.out).rL j hjl
 subst hqb
 rw [HV.out] at xb
 obtain ⟨y0, y1, y2⟩ := T0.out.cells
 have xr0 : wa.cell? ⟨w.heap.size + 1, 0, none⟩ = some (.int .i64 rc) := TR.out.cell 0
 have xr1 : wa.cell? ⟨w.heap.size + 1, 1, none⟩ = some (.int .i64 rn) := TR.out.cell 1
 have l1 : w.heap.size < wa.heap.size := by have := SZ.out; omega
 have l2 : w.heap.size + 1 < wa.heap.size := by have := SZ.out; omega
 have l3 : qb < wa.heap.size := by have := HG0.out.lC qb rfl; have := SZ.out; omega
 go_wp2_with (fail)
 refine wp_region_held_drew (S := fun w1 => Below wa.heap.size wa w1) (by kernel_rfl) ((Below.refl _ _).drew) (fun hq => ?_)
 refine tkI 0 10 (v := ?_) rfl rfl ?_ ?_
 rotate_left
 · intro w1 hSw; obtain ⟨hcS, hfS⟩ := bcell hSw; go_simp; (try with_reducible rfl)
 (try simp only [Act.put, pu1, pu2, pu3])
 refine tkI 1 11 (v := ?_) rfl rfl ?_ ?_
 rotate_left
 · intro w1 hSw; obtain ⟨hcS, hfS⟩ := bcell hSw; go_simp; (try with_reducible rfl)
 (try simp only [Act.put, pu1, pu2, pu3])
 refine tkI 2 12 (v := ?_) rfl rfl ?_ ?_
 rotate_left
 · intro w1 hSw; obtain ⟨hcS, hfS⟩ := bcell hSw; go_simp; (try with_reducible rfl)
 (try simp only [Act.put, pu1, pu2, pu3])
 refine tkI 3 13 (v := ?_) rfl rfl ?_ ?_
 rotate_left
 · intro w1 hSw; obtain ⟨hcS, hfS⟩ := bcell hSw; go_simp; (try with_reducible rfl)
 (try simp only [Act.put, pu1, pu2, pu3])
 refine tkI 4 14 (v := ?_) rfl rfl ?_ ?_
 rotate_left
 · intro w1 hSw; obtain ⟨hcS, hfS⟩ := bcell hSw; go_simp; (try with_reducible rfl)
 (try simp only [Act.put, pu1, pu2, pu3])
 refine tkI 5 15 (v := ?_) rfl rfl ?_ ?_
 rotate_left
 · intro w1 hSw; obtain ⟨hcS, hfS⟩ := bcell hSw; go_simp; (try with_reducible rfl)
 (try simp only [Act.put, pu1, pu2, pu3])
 refine tkI 6 16 (v := ?_) rfl rfl ?_ ?_
 rotate_left
 · intro w1 hSw; obtain ⟨hcS, hfS⟩ := bcell hSw; go_simp; (try with_reducible rfl)
 (try simp only [Act.put, pu1, pu2, pu3])
 refine tkI 7 17 (v := ?_) rfl rfl ?_ ?_
 rotate_left
 · intro w1 hSw; obtain ⟨hcS, hfS⟩ := bcell hSw; go_simp; (try with_reducible rfl)
 (try simp only [Act.put, pu1, pu2, pu3])
 refine tkI 8 18 (v := ?_) rfl rfl ?_ ?_
 rotate_left
 · intro w1 hSw; obtain ⟨hcS, hfS⟩ := bcell hSw; go_simp; (try with_reducible rfl)
 (try simp only [Act.put, pu1, pu2, pu3])
 refine tkI 9 19 (v := ?_) rfl rfl ?_ ?_
 rotate_left
 · intro w1 hSw; obtain ⟨hcS, hfS⟩ := bcell hSw; go_simp; (try with_reducible rfl)
 (try simp only [Act.put, pu1, pu2, pu3])
 refine wpAnyH_done (by kernel_rfl) ?_ _
 have BF := Lib.hid (Below.and BF.out hq)
 have T0b := Lib.hid (T0.out.drew)
 have T1b := Lib.hid (T1.out.drew)
 have TRb : Hid (Bkk wa.drew (w.heap.size + 1) 49 #[.int .i64 rc, .int .i64 rn, .int .i64 ro, .int .i64 rx, .int .i64 ry]) := TR.out
 have SZb : Hid (w.heap.size + 3 ≤ wa.drew.heap.size) := SZ.out
 have BFb := BF
 clear y0 y1 y2 xr0 xr1 l1 l2 l3 xb hq T0 T1 TR SZ BF e3
 obtain ⟨WB, hW⟩ : ∃ X, X = wa.drew := ⟨_, rfl⟩
 rw [← hW] at T0b T1b TRb SZb BFb ⊢
 clear hW
 have RLb : Hid (RdI WB (some ⟨qb, 0, none⟩) L) := (HG0.out.below BFb.out).rL
 obtain ⟨y0, y1, y2⟩ := T0b.out.cells
 have l1 : w.heap.size < WB.heap.size := by have := SZb.out; omega
 go_wp2_with (at_builtin; go_loud (refine list_app cI_len rfl _ _ 27 rfl (w.heap.size + 3) 3 J (.int .i64 0) 8 Try.underlying27 J1.out J2.out J3.out J4.out rfl (by decide) (.slice (some ⟨WB.heap.size, 0, none⟩) 0 0) 0 [] rfl ?o1s1 _ _ L.length L ?m1s1 rfl ?r1s1 ?n1s1 (ints_one _) ?b1s1 ?c1s1 ?d1s1 ?_))
 try case o1s1 => (have := own_base (base' := w.heap.size + 3) (own_nil_new WB 3 1 rfl) (by have := SZb.out; omega); simpa using this)
 try case m1s1 => (rfl)
 try case r1s1 => (exact (RdI.below RLb.out ((Below.refl _ _).alloc (Nat.le_refl _) _)).rd)
 try case r1s1.inl => (exact (RdI.below RLb.out ((Below.refl _ _).alloc (Nat.le_refl _) _)).rd)
 try case r1s1.inr => (exact (RdI.below RLb.out ((Below.refl _ _).alloc (Nat.le_refl _) _)).rd)
 try case n1s1 => (intro e; cases e)
 try case b1s1 => (unfold maxLen; have := HLL.out; omega)
 try case c1s1 => (have := HLL.out; omega)
 try case d1s1 => (have := SZb.out; have := HLL.out; first | omega | (simp; omega))
 intro v1 w1 ho1 hg1 hp1
 obtain ⟨A1, c1, hv1, _⟩ := own_form ho1
 subst hv1
 have ho1' : w1.ownsRow (w.heap.size + 3) 3 1 (.slice A1 L.length c1) L.length (ints L) := by simpa [ints_flat] using ho1
 obtain ⟨q, rfl, hq1, hq2⟩ := own_some ho1' (by rw [HLL.out]; omega)
 have hge : ∀ x, (Value.slice (some ⟨WB.heap.size, 0, none⟩) 0 0).ownBlock = some x → WB.heap.size ≤ x := fun x hx => by simp [Value.ownBlock] at hx; omega
 have BF1 := Lib.hid (Below.trans (BFb.out.alloc BFb.out.size (.cells #[] 3)) (Below.of_grown hg1 (by have := SZb.out; simp; omega) (fun x hx => by have := hge x hx; have := SZb.out; omega)))
 have SZ1 := Lib.hid (show w.heap.size + 3 ≤ w1.heap.size by have := hg1.size; have := SZb.out; simp at *; omega)
 have T01 := Lib.hid ((T0b.out.alloc (.cells #[] 3)).grown hg1 (fun e => by have := hge _ e.symm; have := SZb.out; omega))
 have T11 := Lib.hid ((T1b.out.alloc (.cells #[] 3)).grown hg1 (fun e => by have := hge _ e.symm; have := SZb.out; omega))
 have TR1 : Hid (Bkk w1 (w.heap.size + 1) 49 #[.int .i64 rc, .int .i64 rn, .int .i64 ro, .int .i64 rx, .int .i64 ry]) := (hg1.block _ (by have := SZb.out; simp; omega) (fun e => by have := hge _ e.symm; have := SZb.out; omega)).trans (TRb.out.alloc (.cells #[] 3))
 have OF := Lib.hid ho1'
 clear ho1 hg1 hp1 hge ho1' T0b T1b TRb SZb BFb RLb y0 y1 y2 l1
 obtain ⟨y0, y1, y2⟩ := T01.out.cells
 have yf := T01.out.frozen
 have n1 : ¬ q = w.heap.size := by omega
 have n2 : ¬ w.heap.size = q := by omega
 have l1 : w.heap.size < w1.heap.size := by have := SZ1.out; omega
 have xq : w1.cell? ⟨q, j, none⟩ = some (.int .i64 v) := by rw [OF.out.cellAt j (by simp; omega)]; simp [hjl, HV.out]
 have ff := fun i => OF.out.frozenAt i
 have xr0 : w1.cell? ⟨w.heap.size + 1, 0, none⟩ = some (.int .i64 rc) := TR1.out.cell 0
 have xr1 : w1.cell? ⟨w.heap.size + 1, 1, none⟩ = some (.int .i64 rn) := TR1.out.cell 1
 have n3 : ¬ q = w.heap.size + 1 := by omega
 have n4 : ¬ w.heap.size + 1 = q := by omega
 have l2 : w.heap.size + 1 < w1.heap.size := by have := SZ1.out; omega
 have l3 : q < w1.heap.size := hq2
 go_wp2_with (fail)
 clear y0 y1 y2 yf l1 l2 l3 xr0 xr1 xq ff n3 n4
 have T0a := Lib.hid ((T01.out.set2 (.slice (some ⟨q, 0, none⟩) L.length c1)).far n2 (j := j) (.int .i64 rn))
 have T1a := Lib.hid ((T11.out.far (show w.heap.size + 1 + 1 ≠ w.heap.size by omega) (j := 2) (.slice (some ⟨q, 0, none⟩) L.length c1)).far (show w.heap.size + 1 + 1 ≠ q by omega) (j := j) (.int .i64 rn))
 have TRa := Lib.hid ((TR1.out.far (show w.heap.size + 1 ≠ w.heap.size by omega) 2 (.slice (some ⟨q, 0, none⟩) L.length c1)).far (show w.heap.size + 1 ≠ q by omega) j (.int .i64 rn))
 have OFa : Hid (((w1.setCell ⟨w.heap.size, 2, none⟩ (.slice (some ⟨q, 0, none⟩) L.length c1)).setCell ⟨q, j, none⟩ (.int .i64 rn)).ownsRow (w.heap.size + 3) 3 1 (.slice (some ⟨q, 0, none⟩) L.length c1) L.length (ints (L.set j rn))) := by
  have h := (own_set1 j (.int .i64 rn) (by simp; omega) (own_put OF.out (b := w.heap.size) (by omega) 2 (.slice (some ⟨q, 0, none⟩) L.length c1))).1
  have e1 : (ints L).set j (.int .i64 rn) = ints (L.set j rn) := by simp [ints, List.map_set]
  rw [e1] at h
  exact h
 have HBa := Lib.hid ((BF1.out.setCell (Nat.le_refl w.heap.size) (p := ⟨w.heap.size, 2, none⟩) (.slice (some ⟨q, 0, none⟩) L.length c1)).setCell (show w.heap.size ≤ q by omega) (p := ⟨q, j, none⟩) (.int .i64 rn))
 have SZa : Hid (w.heap.size + 3 ≤ ((w1.setCell ⟨w.heap.size, 2, none⟩ (.slice (some ⟨q, 0, none⟩) L.length c1)).setCell ⟨q, j, none⟩ (.int .i64 rn)).heap.size) := by show _ ≤ _; have := SZ1.out; simp; omega
 obtain ⟨WA, hW⟩ : ∃ X, X = (w1.setCell ⟨w.heap.size, 2, none⟩ (.slice (some ⟨q, 0, none⟩) L.length c1)).setCell ⟨q, j, none⟩ (.int .i64 rn) := ⟨_, rfl⟩
 rw [← hW] at T0a T1a TRa OFa HBa SZa ⊢
 clear hW T01 T11 TR1 OF BF1 SZ1
 have LE1 : (L.set j rn).length = L.length := List.length_set
 have QN := Lib.hid (show w.heap.size ≤ q by have := (own_at OFa.out q rfl).1; omega)
 have GL : Hid (GmR WA A a B b (some ⟨q, 0, none⟩) c1 E F (L.set j rn)) :=
  ⟨RdF.below HG0.out.rE HBa.out, RdI.below HG0.out.rF HBa.out, RdI.of_own OFa.out, HG0.out.cA, HG0.out.cB, (by rw [LE1]; exact (own_cap OFa.out).1), HG0.out.nA, HG0.out.nB, .inr ⟨q, rfl⟩, (fun x hx => Nat.lt_of_lt_of_le (HG0.out.lA x hx) HBa.out.size), (fun x hx => Nat.lt_of_lt_of_le (HG0.out.lB x hx) HBa.out.size), (fun x hx => (own_at OFa.out x hx).2)⟩
 have h := l2At A a B b (some ⟨q, 0, none⟩) c1 E F (L.set j rn) rc WA (by omega) GL.out.rE
 rw [LE1] at h
 refine h.mono ?_
 clear h
 rintro e wc ⟨rfl, hb⟩
 rw [HP.out]
 have T0 := Lib.hid (T0a.out.below hb (by have := SZa.out; omega))
 have T1 := Lib.hid (T1a.out.below hb (by have := SZa.out; omega))
 have TR := Lib.hid (TRa.out.below hb)
 have BF := Lib.hid (Below.and HBa.out hb)
 have GLc := Lib.hid (GL.out.below hb)
 have SZ := Lib.hid (show w.heap.size + 3 ≤ wc.heap.size by have := hb.size; have := SZa.out; omega)
 have HLE := Lib.hid LE1
 clear hb T0a T1a TRa OFa HBa SZa GL LE1
 obtain ⟨y0, y1, y2⟩ := T0.out.cells
 obtain ⟨z0, z1, z2⟩ := T1.out.cells
 have zf := T1.out.frozen
 have xr0 : wc.cell? ⟨w.heap.size + 1, 0, none⟩ = some (.int .i64 rc) := TR.out.cell 0
 have xr1 : wc.cell? ⟨w.heap.size + 1, 1, none⟩ = some (.int .i64 rn) := TR.out.cell 1
 have xr2 : wc.cell? ⟨w.heap.size + 1, 2, none⟩ = some (.int .i64 ro) := TR.out.cell 2
 have xr3 : wc.cell? ⟨w.heap.size + 1, 3, none⟩ = some (.int .i64 rx) := TR.out.cell 3
 have xr4 : wc.cell? ⟨w.heap.size + 1, 4, none⟩ = some (.int .i64 ry) := TR.out.cell 4
 have l1 : w.heap.size < wc.heap.size := by have := SZ.out; omega
 have l2 : w.heap.size + 1 < wc.heap.size := by have := SZ.out; omega
 have pA : ∀ x, A = some ⟨x, 0, none⟩ → x ≠ w.heap.size + 1 + 1 := fun x hx => by have := HG0.out.lA x hx; omega
 have pB : ∀ x, B = some ⟨x, 0, none⟩ → x ≠ w.heap.size + 1 + 1 := fun x hx => by have := HG0.out.lB x hx; omega
 have pC : ∀ x, (some ⟨q, 0, none⟩ : Option Addr) = some ⟨x, 0, none⟩ → x ≠ w.heap.size + 1 + 1 := fun x hx => by cases hx; omega
 go_wp2_with (fail)
 obtain ⟨g, hgA, _⟩ := GLc.out.rE k hk
 subst hgA
 have h := actAll g a B b (some ⟨q, 0, none⟩) c1 E F (L.set j rn) k ⟨rc, rn, ro, rx, ry⟩ wc HO.out hf hk HRQ.out hro GLc.out
 rw [HLE.out] at h
 rw [← HXE.out, ← HXF.out, ← HXC.out] at h
 refine h.mono ?_
 clear h y0 y1 y2 z0 z1 z2 zf xr0 xr1 xr2 xr3 xr4 l1 l2
 rintro e wd ⟨A', a', B', b', rfl, hG, hA, hB, hb⟩
 have HSA := Lib.hid (Src.late (w := w) hA (by have := SZ.out; omega))
 have HSB := Lib.hid (Src.late (w := w) hB (by have := SZ.out; omega))
 have T1d := Lib.hid (T1.out.below hb (by have := SZ.out; omega))
 have BFd := Lib.hid (Below.and BF.out hb)
 have HGd := Lib.hid hG
 have SZd := Lib.hid (show w.heap.size + 3 ≤ wd.heap.size by have := hb.size; have := SZ.out; omega)
 have pA' : ∀ x, A' = some ⟨x, 0, none⟩ → x ≠ w.heap.size + 1 + 1 := fun x hx => by
  rcases hA with h | h
  · exact pA x (by rw [← h]; exact hx)
  · have := h x hx; have := SZ.out; omega
 have pB' : ∀ x, B' = some ⟨x, 0, none⟩ → x ≠ w.heap.size + 1 + 1 := fun x hx => by
  rcases hB with h | h
  · exact pB x (by rw [← h]; exact hx)
  · have := h x hx; have := SZ.out; omega
 clear hb hG hA hB pA pB
 obtain ⟨N3, hN3⟩ : ∃ N3, N3 = XE.length := ⟨_, rfl⟩
 obtain ⟨M3, hM3⟩ : ∃ M3, M3 = XF.length := ⟨_, rfl⟩
 have HN3 := Lib.hid hN3
 have HM3 := Lib.hid hM3
 unfold gameV
 rw [← hN3, ← hM3]
 clear hN3 hM3
 obtain ⟨z0, z1, z2⟩ := T1d.out.cells
 have zf := T1d.out.frozen
 have l3 : w.heap.size + 1 + 1 < wd.heap.size := by have := SZd.out; omega
 go_wp2
 refine bodyPost_ret (v := .tuple #[.agg #[.slice A' N3 a', .slice B' M3 b', .slice (some ⟨q, 0, none⟩) (L.set j rn).length c1], .int .i64 XC]) (by simp [results, Try.results56, go_sem, z0, z1, z2]) rfl ⟨A', a', B', b', some ⟨q, 0, none⟩, c1, by rw [HN3.out, HM3.out], ?_, HSA.out, HSB.out, Src.new QN.out⟩
 refine ⟨?_, ?_⟩
 · iterate 3 (refine GmR.put ?_ _ _ _ pA' pB' pC)
   exact HGd.out
 · iterate 3 (refine Below.setCell ?_ (by first | (simp; done) | (simp; omega)) _)
   exact BFd.out
end Go.Proofs.Ytameldhdegcpoaa
