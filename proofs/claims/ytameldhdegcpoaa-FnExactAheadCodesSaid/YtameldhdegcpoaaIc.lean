import Derived.Test.YtameldhdegcpoaaIb
namespace Go.Proofs.Ytameldhdegcpoaa
open Go.ChangeShapes Go.WideShapes Go.ChangeAt Go.RowKit
set_option linter.unusedVariables false
set_option linter.unusedSimpArgs false
def agG (D T : List Rq) (k : Int) : Gm := if ahB D T k = true then T.foldl stepF (foldG D) else ([], [], [])
def acG (D T : List Rq) (k : Int) : List Int := if ahB D T k = true then codesG (foldG D) T else []
def AgI (X : Gm) (w : World) (e : Ending) (w' : World) : Prop :=
 ∃ A a B b C c, e = .returned (gameV A X.1.length a B X.2.1.length b C X.2.2.length c) ∧ OwG w' w.heap.size A a B b C c X.1 X.2.1 X.2.2 ∧ Below w.heap.size w w'
def AgR (X : Gm) (w : World) (e : Ending) (w' : World) : Prop :=
 ∃ A a B b C c, e = .returned (gameV A X.1.length a B X.2.1.length b C X.2.2.length c) ∧ GmR w' A a B b C c X.1 X.2.1 X.2.2 ∧ Below w.heap.size w w'
theorem fold_ok {D T : List Rq} {k : Int} (h : ahB D T k = true) : gokB (T.foldl stepF (foldG D)).1 (T.foldl stepF (foldG D)).2.1 (T.foldl stepF (foldG D)).2.2 = true :=
 foldG_ok _ _ (foldG_ok D g0 g0_ok (ahB_all h).1) (ahB_all h).2
theorem agG_len (D T : List Rq) (k : Int) : (agG D T k).1.length ≤ 4 ∧ (agG D T k).2.1.length ≤ 16 ∧ (agG D T k).2.2.length ≤ 4 := by
 unfold agG
 split
 · rename_i h
   have := okG_of (fold_ok h)
   exact ⟨this.e.len, Nat.le_of_eq this.f, Nat.le_of_eq this.l⟩
 · simp
theorem fold_app (D T : List Rq) : foldG (D ++ T) = T.foldl stepF (foldG D) := by
 unfold foldG
 rw [List.foldl_append]
set_option maxRecDepth 100000 in
set_option maxHeartbeats 4000000 in
theorem implAheadGame (A : Option Addr) (a : Nat) (B : Option Addr) (b : Nat) (D T : List Rq) (k : Int) (w : World) (hD : D.length ≤ 1048576) (hT : T.length ≤ 1048576) (h : RdAc w A a B b D T) :
 Calls Try.prog 14 #[aheadV A D.length a B T.length b k] w (AgI (agG D T k) w) := by
 have HR := Lib.hid h
 have K1 := Lib.hid ((Three.new (u0 := .slice A D.length a) (u1 := .slice B T.length b) (u2 := .int .i64 k) (t := 33) w).alloc (.cells #[.slice none 0 0, .slice none 0 0, .slice none 0 0] 29))
 have K2 : Hid (Three ((w.alloc (.cells #[.slice A D.length a, .slice B T.length b, .int .i64 k] 33)).alloc (.cells #[.slice none 0 0, .slice none 0 0, .slice none 0 0] 29)) (w.heap.size + 1) 29 (.slice none 0 0) (.slice none 0 0) (.slice none 0 0)) := by have := Three.new (u0 := .slice none 0 0) (u1 := .slice none 0 0) (u2 := .slice none 0 0) (t := 29) (w.alloc (.cells #[.slice A D.length a, .slice B T.length b, .int .i64 k] 33)); simpa [Hid] using this
 have Z : Hid (Below w.heap.size w ((w.alloc (.cells #[.slice A D.length a, .slice B T.length b, .int .i64 k] 33)).alloc (.cells #[.slice none 0 0, .slice none 0 0, .slice none 0 0] 29))) := below_alloc2 w _ _
 have LZ : Hid (w.heap.size + 2 ≤ ((w.alloc (.cells #[.slice A D.length a, .slice B T.length b, .int .i64 k] 33)).alloc (.cells #[.slice none 0 0, .slice none 0 0, .slice none 0 0] 29)).heap.size) := by show _ ≤ _; simp
 clear h
 go_enter Try.func14, Try.ntmps14
 go_upto_region 1 with (fail)
 obtain ⟨w0, hw0⟩ : ∃ X, X = ((w.alloc (.cells #[.slice A D.length a, .slice B T.length b, .int .i64 k] 33)).alloc (.cells #[.slice none 0 0, .slice none 0 0, .slice none 0 0] 29)) := ⟨_, rfl⟩
 rw [← hw0] at K1 K2 Z LZ ⊢
 clear hw0
 obtain ⟨p0, p1, p2⟩ := K1.out.cells
 go_wp2_with (fail)
 refine (implAheadOk A a B b D T k _ hD hT (Rd.below HR.out.r.d Z.out) (Rd.below HR.out.r.t Z.out)).mono ?_
 rintro e w1 ⟨rfl, hb⟩
 have K1 := Lib.hid (Three.below K1.out hb K1.out.lt)
 have K2 := Lib.hid (Three.below K2.out hb K2.out.lt)
 have Z := Lib.hid (Below.and Z.out hb)
 have LZ := Lib.hid (Nat.le_trans LZ.out hb.size)
 clear hb p0 p1 p2
 rcases hok : ahB D T k with _ | _
 · have HX := Lib.hid (show agG D T k = ([], [], []) by unfold agG; rw [hok]; rfl)
   clear hok
   obtain ⟨z0, z1, z2⟩ := K2.out.cells
   have zf := K2.out.frozen
   have BG : ∀ p0 p1 p2 : Value, Below w.heap.size w (((w1.setCell ⟨w.heap.size + 1, 0, none⟩ p0).setCell ⟨w.heap.size + 1, 1, none⟩ p1).setCell ⟨w.heap.size + 1, 2, none⟩ p2) := fun p0 p1 p2 => by
    iterate 3 (refine Below.setCell ?_ (by first | (simp; done) | (simp; omega)) _)
    exact Z.out
   go_wp2
   refine bodyPost_ret (v := .agg #[.slice none 0 0, .slice none 0 0, .slice none 0 0]) (by simp [results, Try.results14, go_sem, z0, z1, z2]) rfl ⟨none, 0, none, 0, none, 0, by rw [HX.out]; rfl, by rw [HX.out]; exact OwG.nil _ _, BG _ _ _⟩
 have HX := Lib.hid (show agG D T k = T.foldl stepF (foldG D) by unfold agG; rw [if_pos hok])
 have HOK := Lib.hid hok
 clear hok
 obtain ⟨p0, p1, p2⟩ := K1.out.cells
 go_wp2_with (fail)
 refine (forecastOf A a B b D T k w1 HOK.out (HR.out.below Z.out)).mono ?_
 rintro e w2 ⟨pf, lg, A1, a1, B1, b1, C1, c1, Q, q, V, v, us, A0, a0, B0, b0, C0, c0, rfl, hlg, hpf, fc, _, _, _, _, hb⟩
 obtain ⟨X, hX⟩ : ∃ X, X = T.foldl stepF (foldG D) := ⟨_, rfl⟩
 rw [← hX] at fc HX
 have GG := Lib.hid (fc.g.base (show w.heap.size + 2 ≤ lg from Nat.le_trans LZ.out hlg))
 have F5 := Lib.hid fc.at_
 have K2 := Lib.hid (Three.below K2.out hb K2.out.lt)
 have Z := Lib.hid (Below.and Z.out hb)
 clear hb p0 p1 p2 fc hX
 obtain ⟨x0, x1, x2, x3, x4⟩ := F5.out.cells
 obtain ⟨z0, z1, z2⟩ := K2.out.cells
 have zf := K2.out.frozen
 have GN := Lib.hid ((((GG.out.put (q := w.heap.size + 1) (by omega) 0 (.slice A1 X.1.length a1)).put (q := w.heap.size + 1) (by omega) 1 (.slice B1 X.2.1.length b1)).put (q := w.heap.size + 1) (by omega) 2 (.slice C1 X.2.2.length c1)).base (show w.heap.size ≤ w.heap.size + 2 by omega))
 have BG := Lib.hid (((Z.out.setCell (p := ⟨w.heap.size + 1, 0, none⟩) (by simp) (.slice A1 X.1.length a1)).setCell (p := ⟨w.heap.size + 1, 1, none⟩) (by simp) (.slice B1 X.2.1.length b1)).setCell (p := ⟨w.heap.size + 1, 2, none⟩) (by simp) (.slice C1 X.2.2.length c1))
 clear GG F5 K2 Z K1
 go_wp2
 refine bodyPost_ret (v := .agg #[.slice A1 X.1.length a1, .slice B1 X.2.1.length b1, .slice C1 X.2.2.length c1]) (by simp [results, Try.results14, go_sem, z0, z1, z2]) rfl ⟨A1, a1, B1, b1, C1, c1, by rw [HX.out], by rw [HX.out]; exact GN.out, BG.out⟩
set_option maxRecDepth 100000 in
set_option maxHeartbeats 8000000 in
theorem specAheadGame (A : Option Addr) (a : Nat) (B : Option Addr) (b : Nat) (D T : List Rq) (k : Int) (w : World) (hD : D.length ≤ 1048576) (hT : T.length ≤ 1048576) (h : RdAc w A a B b D T) :
 Calls Try.prog 12 #[aheadV A D.length a B T.length b k] w (AgR (agG D T k) w) := by
 obtain ⟨I, hi, hz0, hz1, hz2⟩ := parts_ofH infoReqH
 have I1 := Lib.hid hi
 have I2 := Lib.hid hz0
 have I3 := Lib.hid hz1
 have I4 := Lib.hid hz2
 clear hi hz0 hz1 hz2
 have HR := Lib.hid h
 have K1 := Lib.hid ((Three.new (u0 := .slice A D.length a) (u1 := .slice B T.length b) (u2 := .int .i64 k) (t := 33) w).alloc (.cells #[.slice none 0 0, .slice none 0 0, .slice none 0 0] 29))
 have K2 : Hid (Three ((w.alloc (.cells #[.slice A D.length a, .slice B T.length b, .int .i64 k] 33)).alloc (.cells #[.slice none 0 0, .slice none 0 0, .slice none 0 0] 29)) (w.heap.size + 1) 29 (.slice none 0 0) (.slice none 0 0) (.slice none 0 0)) := by have := Three.new (u0 := .slice none 0 0) (u1 := .slice none 0 0) (u2 := .slice none 0 0) (t := 29) (w.alloc (.cells #[.slice A D.length a, .slice B T.length b, .int .i64 k] 33)); simpa [Hid] using this
 have Z : Hid (Below w.heap.size w ((w.alloc (.cells #[.slice A D.length a, .slice B T.length b, .int .i64 k] 33)).alloc (.cells #[.slice none 0 0, .slice none 0 0, .slice none 0 0] 29))) := below_alloc2 w _ _
 have LZ : Hid (w.heap.size + 2 ≤ ((w.alloc (.cells #[.slice A D.length a, .slice B T.length b, .int .i64 k] 33)).alloc (.cells #[.slice none 0 0, .slice none 0 0, .slice none 0 0] 29)).heap.size) := by show _ ≤ _; simp
 clear h
 go_enter Try.func12, Try.ntmps12
 go_upto_region 1 with (fail)
 obtain ⟨w0, hw0⟩ : ∃ X, X = ((w.alloc (.cells #[.slice A D.length a, .slice B T.length b, .int .i64 k] 33)).alloc (.cells #[.slice none 0 0, .slice none 0 0, .slice none 0 0] 29)) := ⟨_, rfl⟩
 rw [← hw0] at K1 K2 Z LZ ⊢
 clear hw0
 obtain ⟨p0, p1, p2⟩ := K1.out.cells
 go_wp2_with (fail)
 refine (l8Ok A a B b D T k _ hD hT (Rd.below HR.out.r.d Z.out) (Rd.below HR.out.r.t Z.out)).mono ?_
 rintro e w1 ⟨rfl, hb⟩
 have K1 := Lib.hid (Three.below K1.out hb K1.out.lt)
 have K2 := Lib.hid (Three.below K2.out hb K2.out.lt)
 have Z := Lib.hid (Below.and Z.out hb)
 have LZ := Lib.hid (Nat.le_trans LZ.out hb.size)
 clear hb p0 p1 p2
 rcases hok : ahB D T k with _ | _
 · have HX := Lib.hid (show agG D T k = ([], [], []) by unfold agG; rw [hok]; rfl)
   clear hok
   obtain ⟨z0, z1, z2⟩ := K2.out.cells
   have zf := K2.out.frozen
   have BG : ∀ p0 p1 p2 : Value, Below w.heap.size w (((w1.setCell ⟨w.heap.size + 1, 0, none⟩ p0).setCell ⟨w.heap.size + 1, 1, none⟩ p1).setCell ⟨w.heap.size + 1, 2, none⟩ p2) := fun p0 p1 p2 => by
    iterate 3 (refine Below.setCell ?_ (by first | (simp; done) | (simp; omega)) _)
    exact Z.out
   go_wp2
   refine bodyPost_ret (v := .agg #[.slice none 0 0, .slice none 0 0, .slice none 0 0]) (by simp [results, Try.results12, go_sem, z0, z1, z2]) rfl ⟨none, 0, none, 0, none, 0, by rw [HX.out]; rfl, by rw [HX.out]; exact GmR.nil _, BG _ _ _⟩
 have HX := Lib.hid (show agG D T k = foldG (D ++ T) by unfold agG; rw [if_pos hok, fold_app])
 have HP : Hid (∀ r ∈ D ++ T, okB r = true) := fun r hr => by
  rcases List.mem_append.1 hr with h | h
  · exact (ahB_all hok).1 r h
  · exact (ahB_all hok).2 r h
 have HK60 := Lib.hid (ahB_len hok)
 have hgk := fold_ok hok
 rw [← fold_app] at hgk
 have HGK := Lib.hid (okG_of hgk)
 clear hok hgk
 go_upto_region 3 with (fail)
 refine wp_region_held_drew (S := fun WS => Three WS w.heap.size 33 (.slice A D.length a) (.slice B T.length b) (.int .i64 k)) (by kernel_rfl) K1.out.drew (fun hS0 => ?_)
 refine tkI 1 8 (v := ?_) rfl rfl ?_ ?_
 rotate_left
 · intro wS hSw; obtain ⟨p0, p1, p2⟩ := Three.cells hSw; go_simp; (try with_reducible rfl)
 (try simp only [Act.put, pu1, pu2, pu3])
 refine tkI 2 9 (v := ?_) rfl rfl ?_ ?_
 rotate_left
 · intro wS hSw; obtain ⟨p0, p1, p2⟩ := Three.cells hSw; go_simp; (try with_reducible rfl)
 (try simp only [Act.put, pu1, pu2, pu3])
 refine tkI 4 11 (v := ?_) rfl rfl ?_ ?_
 rotate_left
 · intro wS hSw; obtain ⟨p0, p1, p2⟩ := Three.cells hSw; go_simp; (try with_reducible rfl)
 (try simp only [Act.put, pu1, pu2, pu3])
 refine tkI 5 12 (v := ?_) rfl rfl ?_ ?_
 rotate_left
 · intro wS hSw; obtain ⟨p0, p1, p2⟩ := Three.cells hSw; go_simp; (try with_reducible rfl)
 (try simp only [Act.put, pu1, pu2, pu3])
 clear hS0
 refine wpAnyH_ready (rs := [0]) (by kernel_rfl) (by simp) ?_
 refine AllReadyH.cons rfl (fun KK hK => ?_) AllReadyH.nil
 go_simp
 refine hK.out _ _ (show Three (w1.alloc (.cells #[] 49)).drew _ _ _ _ _ from (K1.out.alloc (.cells #[] 49)).drew) (fun _ => ?_)
 clear hK KK
 (try simp only [Act.put, pu1, pu2, pu3])
 have hba : Below w1.heap.size w1 (w1.alloc (.cells #[] 49)).drew := ((Below.refl w1.heap.size w1).alloc (Nat.le_refl _) (.cells #[] 49)).drew
 have K1 := Lib.hid (Three.below K1.out hba K1.out.lt)
 have K2 := Lib.hid (Three.below K2.out hba K2.out.lt)
 have Z := Lib.hid (Below.and Z.out hba)
 have OO : Hid ((w1.alloc (.cells #[] 49)).drew.ownsRow w1.heap.size 49 5 (.slice (some ⟨w1.heap.size, 0, none⟩) 0 0) 0 []) := own_nil_newH w1 49 5 rfl
 have LO : Hid (w1.heap.size ≤ (w1.alloc (.cells #[] 49)).drew.heap.size) := hba.size
 obtain ⟨lo, hlo⟩ : ∃ X, X = w1.heap.size := ⟨_, rfl⟩
 obtain ⟨w2, hw2⟩ : ∃ X, X = (w1.alloc (.cells #[] 49)).drew := ⟨_, rfl⟩
 rw [← hw2] at K1 K2 Z OO LO ⊢
 rw [← hlo] at OO LO LZ ⊢
 clear hba hw2 hlo
 refine wpAnyH_ready (rs := [3]) (by kernel_rfl) (by simp) ?_
 refine AllReadyH.cons rfl (fun KK hK => ?_) AllReadyH.nil
 refine step_app (k := 5) (f := Rq.cells) (fun _ => rfl) (by rfl) _ _ 31 (by rfl) lo 49 I (.agg #[.int .i64 0, .int .i64 0, .int .i64 0, .int .i64 0, .int .i64 0]) 40 Try.underlying31 I1.out I2.out I3.out I4.out (by rfl) (by omega) _ 0 [] (by rfl) OO.out A a D.length D rfl (by rfl) (Rd.below HR.out.r.d Z.out) HR.out.r.nA (reqs_oneH _) (by unfold maxLen; omega) (by omega) LO.out ?_
 intro vw3 w3 ho hg hp
 have hb : Below lo w2 w3 := Below.of_grown hg LO.out (fun x hx => (own_block_ge OO.out x hx).1)
 have k1 : Three w3 w.heap.size _ _ _ _ := K1.out.grown hg (fun e => own_typeH OO.out K1.out (by decide) e.symm)
 have k2 : Three w3 (w.heap.size + 1) _ _ _ _ := K2.out.grown hg (fun e => own_typeH OO.out K2.out (by decide) e.symm)
 have z3 : Below w.heap.size w w3 := Z.out.trans (hb.mono (by have := LZ.out; omega))
 refine hK.out _ _ k1 (fun _ => ?_)
 clear hK KK
 (try simp only [Act.put, pu1, pu2, pu3])
 have K1 := Lib.hid k1
 have K2 := Lib.hid k2
 have Z := Lib.hid z3
 have LO := Lib.hid (Nat.le_trans LO.out hg.size)
 have OO : Hid (w3.ownsRow lo 49 5 vw3 D.length (D.flatMap Rq.cells)) := by simpa [Hid] using ho
 clear k1 k2 z3 ho hg hp hb
 refine wpAnyH_ready (rs := [6]) (by kernel_rfl) (by simp) ?_
 refine AllReadyH.cons rfl (fun KK hK => ?_) AllReadyH.nil
 refine step_app (k := 5) (f := Rq.cells) (fun _ => rfl) (by rfl) _ _ 31 (by rfl) lo 49 I (.agg #[.int .i64 0, .int .i64 0, .int .i64 0, .int .i64 0, .int .i64 0]) 40 Try.underlying31 I1.out I2.out I3.out I4.out (by rfl) (by omega) _ D.length (D.flatMap Rq.cells) (by rfl) OO.out B b T.length T rfl (by rfl) (Rd.below HR.out.r.t Z.out) HR.out.r.nB (reqs_oneH _) (by unfold maxLen; omega) (by omega) LO.out ?_
 intro vw4 w4 ho hg hp
 have hb : Below lo w3 w4 := Below.of_grown hg LO.out (fun x hx => (own_block_ge OO.out x hx).1)
 have k1 : Three w4 w.heap.size _ _ _ _ := K1.out.grown hg (fun e => own_typeH OO.out K1.out (by decide) e.symm)
 have k2 : Three w4 (w.heap.size + 1) _ _ _ _ := K2.out.grown hg (fun e => own_typeH OO.out K2.out (by decide) e.symm)
 have z3 : Below w.heap.size w w4 := Z.out.trans (hb.mono (by have := LZ.out; omega))
 obtain ⟨A4, a4, rfl⟩ := own_formH ho
 refine hK.out _ _ k1 (fun _ => ?_)
 clear hK KK
 (try simp only [Act.put, pu1, pu2, pu3])
 have K1 := Lib.hid k1
 have K2 := Lib.hid k2
 have Z := Lib.hid z3
 rw [← List.flatMap_append, show D.length + T.length = (D ++ T).length by simp] at ho
 have OO := Lib.hid ho
 have hPl : (D ++ T).length ≤ 2097152 := by simp; omega
 obtain ⟨P, hP⟩ : ∃ P, P = D ++ T := ⟨_, rfl⟩
 have hpl : D.length + T.length = P.length := by rw [hP]; simp
 have HPL := Lib.hid (show P.length ≤ 1048576 by rw [hP]; simp; have := HK60.out; omega)
 rw [hpl]
 rw [← hP] at OO HX HP HGK
 clear k1 k2 z3 ho hg hp hb LO hP hPl hpl
 have HRp := Lib.hid (Rd.of_own (f := Rq.cells) (k := 5) (fun _ => rfl) OO.out rfl)
 have HCp := Lib.hid (own_cap OO.out).1
 refine wpAnyH_ready (rs := [7]) (by kernel_rfl) (by simp) ?_
 refine AllReadyH.cons rfl (fun KK hK => ?_) AllReadyH.nil
 go_simp
 refine (l2Fold A4 a4 P w4 HPL.out HCp.out HRp.out HP.out).mono ?_
 rintro e w5 ⟨A5, a5, B5, b5, C5, c5, rfl, hg, hb⟩
 have K1 := Lib.hid (Three.below K1.out hb K1.out.lt)
 have K2 := Lib.hid (Three.below K2.out hb K2.out.lt)
 have Z := Lib.hid (Below.and Z.out hb)
 have HG := Lib.hid hg
 obtain ⟨X, hX⟩ : ∃ X, X = foldG P := ⟨_, rfl⟩
 rw [← hX] at HG HX HGK
 rw [show foldG P = X from hX.symm]
 clear hX hg hb OO HRp HCp HP HPL
 refine hK.out _ _ K1.out (fun _ => ?_)
 clear hK KK
 (try simp only [Act.put, pu1, pu2, pu3])
 refine wpAnyH_ready (rs := [8]) (by kernel_rfl) (by simp) ?_
 refine AllReadyH.cons rfl (fun KK hK => ?_) AllReadyH.nil
 go_simp
 refine (l2Copy A5 a5 B5 b5 C5 c5 X.1 X.2.1 X.2.2 _ HGK.out.e.len (by rw [HGK.out.f]; omega) (by rw [HGK.out.l]; omega) HG.out.rE HG.out.rF HG.out.rL (nil_cap HG.out.nA) (nil_cap HG.out.nB) (nil_cap HG.out.nC)).mono ?_
 rintro e w6 ⟨A1, a1, B1, b1, C1, c1, rfl, oE, oF, oL, _, _, _, hb⟩
 have GL : Hid (GmR w6 A1 a1 B1 b1 C1 c1 X.1 X.2.1 X.2.2) := ⟨RdF.of_own oE, RdI.of_own oF, RdI.of_own oL, (own_cap oE).1, (own_cap oF).1, (own_cap oL).1, (own_cap oE).2, (own_cap oF).2, (own_cap oL).2, (fun x hx => (own_at oE x hx).2), (fun x hx => (own_at oF x hx).2), (fun x hx => (own_at oL x hx).2)⟩
 have K1 := Lib.hid (Three.below K1.out hb K1.out.lt)
 have K2 := Lib.hid (Three.below K2.out hb K2.out.lt)
 have Z := Lib.hid (Below.and Z.out hb)
 clear hb oE oF oL
 refine hK.out _ _ K1.out (fun _ => ?_)
 clear hK KK
 (try simp only [Act.put, pu1, pu2, pu3])
 unfold gameV
 obtain ⟨z0, z1, z2⟩ := K2.out.cells
 have zf := K2.out.frozen
 refine wpAnyH_ready (rs := [9]) (by kernel_rfl) (by simp) ?_
 refine AllReadyH.cons rfl (fun KK hK => ?_) AllReadyH.nil
 go_simp
 refine hK.out _ _ ((((K1.out.far (show w.heap.size ≠ w.heap.size + 1 by omega) (j := 0) _).far (show w.heap.size ≠ w.heap.size + 1 by omega) (j := 1) _).far (show w.heap.size ≠ w.heap.size + 1 by omega) (j := 2) _)) (fun _ => ?_)
 clear hK KK
 (try simp only [Act.put, pu1, pu2, pu3])
 refine wpAnyH_done (by kernel_rfl) ?_ _
 have GN := Lib.hid (((GL.out.box (p := w.heap.size + 1) K2.out.cells.1 0 (.slice A1 X.1.length a1)).box (p := w.heap.size + 1) (K2.out.set0 _).cells.1 1 (.slice B1 X.2.1.length b1)).box (p := w.heap.size + 1) ((K2.out.set0 _).set1 _).cells.1 2 (.slice C1 X.2.2.length c1))
 have BG := Lib.hid (((Z.out.setCell (p := ⟨w.heap.size + 1, 0, none⟩) (by simp) (.slice A1 X.1.length a1)).setCell (p := ⟨w.heap.size + 1, 1, none⟩) (by simp) (.slice B1 X.2.1.length b1)).setCell (p := ⟨w.heap.size + 1, 2, none⟩) (by simp) (.slice C1 X.2.2.length c1))
 clear GL K1 Z HG HGK
 go_wp2
 refine bodyPost_ret (v := .agg #[.slice A1 X.1.length a1, .slice B1 X.2.1.length b1, .slice C1 X.2.2.length c1]) (by simp [results, Try.results12, go_sem, z0, z1, z2]) rfl ⟨A1, a1, B1, b1, C1, c1, by rw [HX.out], by rw [HX.out]; exact GN.out, BG.out⟩
end Go.Proofs.Ytameldhdegcpoaa
