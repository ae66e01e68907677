import Derived.Test.YtameldhdegcpoaaGzn
import Derived.Test.YtameldhdegcpoaaGx
namespace Go.Proofs.Ytameldhdegcpoaa
open Go.ChangeShapes Go.WideShapes Go.ChangeAt Go.RowKit
set_option linter.unusedVariables false
set_option linter.unusedSimpArgs false
set_option maxRecDepth 100000 in
set_option maxHeartbeats 8000000 in
theorem stepOldI (A : Option Addr) (a : Nat) (B : Option Addr) (b : Nat) (C : Option Addr) (d : Nat) (E : List Fig) (F L : List Int) (rc rn ro rx ry : Int) (w : World) (hE : E.length ≤ 1048576) (hF : F.length ≤ 1048576) (hL : L.length ≤ 1048576) (hgb : gokB E F L = true) (hok : okB ⟨rc, rn, ro, rx, ry⟩ = true) (hn : nullB ⟨rc, rn, ro, rx, ry⟩ = false) (j : Nat) (v : Int) (hj : rc - 1 = (j : Int)) (hjl : j < L.length) (hv : L[j]'hjl = v) (hc : 1 ≤ rc ∧ rc ≤ 4) (hle : rn ≤ v) (hg : GmR w A a B b C d E F L) :
 Calls Try.prog 36 #[gameV A E.length a B F.length b C L.length d, .agg #[.int .i64 rc, .int .i64 rn, .int .i64 ro, .int .i64 rx, .int .i64 ry]] w (DoI ((E, F, L), 3) w) := by
 have HOK := Lib.hid hok
 clear hok
 have HN := Lib.hid hn
 clear hn
 have q1 : IntKind.i64.wrap (rc - 1) = (j : Int) := by rw [hj]; exact IntWalk.i64_in _ (by omega)
 have i2 : (0 : Int) ≤ (j : Int) := by omega
 have i3 : (j : Int) < (L.length : Int) := by omega
 have HV := Lib.hid hv
 have HJ := Lib.hid hj
 clear hj hv
 have e3 : decide (rn ≤ v) = true := by simpa using hle
 have BW : Hid (Below w.heap.size w (((w.alloc (.cells #[.slice A E.length a, .slice B F.length b, .slice C L.length d] 29)).alloc (.cells #[.int .i64 rc, .int .i64 rn, .int .i64 ro, .int .i64 rx, .int .i64 ry] 49)).alloc (.cells #[.slice none 0 0, .slice none 0 0, .slice none 0 0] 29))) := ((below_alloc2 w _ _).alloc (by simp; omega) _)
 have HSW : Hid ((((w.alloc (.cells #[.slice A E.length a, .slice B F.length b, .slice C L.length d] 29)).alloc (.cells #[.int .i64 rc, .int .i64 rn, .int .i64 ro, .int .i64 rx, .int .i64 ry] 49)).alloc (.cells #[.slice none 0 0, .slice none 0 0, .slice none 0 0] 29)).heap.size = w.heap.size + 3) := by show _ = _; simp
 have K0 : Hid (Three (((w.alloc (.cells #[.slice A E.length a, .slice B F.length b, .slice C L.length d] 29)).alloc (.cells #[.int .i64 rc, .int .i64 rn, .int .i64 ro, .int .i64 rx, .int .i64 ry] 49)).alloc (.cells #[.slice none 0 0, .slice none 0 0, .slice none 0 0] 29)) w.heap.size 29 (.slice A E.length a) (.slice B F.length b) (.slice C L.length d)) := ((Three.new w).alloc _).alloc _
 have KR : Hid (Bkk (((w.alloc (.cells #[.slice A E.length a, .slice B F.length b, .slice C L.length d] 29)).alloc (.cells #[.int .i64 rc, .int .i64 rn, .int .i64 ro, .int .i64 rx, .int .i64 ry] 49)).alloc (.cells #[.slice none 0 0, .slice none 0 0, .slice none 0 0] 29)) (w.heap.size + 1) 49 #[.int .i64 rc, .int .i64 rn, .int .i64 ro, .int .i64 rx, .int .i64 ry]) := by have := (Bkk.new (t := 49) (cs := #[.int .i64 rc, .int .i64 rn, .int .i64 ro, .int .i64 rx, .int .i64 ry]) (w.alloc (.cells #[.slice A E.length a, .slice B F.length b, .slice C L.length d] 29))).alloc (.cells #[.slice none 0 0, .slice none 0 0, .slice none 0 0] 29); simpa [Hid] using this
 have K1 : Hid (Three (((w.alloc (.cells #[.slice A E.length a, .slice B F.length b, .slice C L.length d] 29)).alloc (.cells #[.int .i64 rc, .int .i64 rn, .int .i64 ro, .int .i64 rx, .int .i64 ry] 49)).alloc (.cells #[.slice none 0 0, .slice none 0 0, .slice none 0 0] 29)) (w.heap.size + 1 + 1) 29 (.slice none 0 0) (.slice none 0 0) (.slice none 0 0)) := by have := Three.new (t := 29) (u0 := .slice none 0 0) (u1 := .slice none 0 0) (u2 := .slice none 0 0) ((w.alloc (.cells #[.slice A E.length a, .slice B F.length b, .slice C L.length d] 29)).alloc (.cells #[.int .i64 rc, .int .i64 rn, .int .i64 ro, .int .i64 rx, .int .i64 ry] 49)); simpa [Hid] using this
 have HG0 := Lib.hid hg
 have HGB := Lib.hid hgb
 have HG := Lib.hid (hg.below BW.out)
 have BF := BW
 have T0 := K0
 have T1 := K1
 have TR := KR
 have SZ := Lib.hid (show w.heap.size + 3 ≤ (((w.alloc (.cells #[.slice A E.length a, .slice B F.length b, .slice C L.length d] 29)).alloc (.cells #[.int .i64 rc, .int .i64 rn, .int .i64 ro, .int .i64 rx, .int .i64 ry] 49)).alloc (.cells #[.slice none 0 0, .slice none 0 0, .slice none 0 0] 29)).heap.size by rw [HSW.out]; omega)
 clear K0 K1 KR HSW BW
 clear hg hgb
 unfold gameV
 go_enter Try.func36, Try.ntmps36
 go_wp2_with (fail)
 refine (gameOk A a B b C d E F L _ hE hF hL HG.out.rE HG.out.rF HG.out.rL).mono ?_
 rintro e wa ⟨rfl, hb⟩
 rw [HGB.out]
 have BF := Lib.hid (Below.and BF.out hb)
 have T0 := Lib.hid (T0.out.below hb (by have := SZ.out; omega))
 have T1 := Lib.hid (T1.out.below hb (by have := SZ.out; omega))
 have TR := Lib.hid (TR.out.below hb)
 have SZ := Lib.hid (show w.heap.size + 3 ≤ wa.heap.size by have := hb.size; have := SZ.out; omega)
 clear hb
 have xr0 : wa.cell? ⟨w.heap.size + 1, 0, none⟩ = some (.int .i64 rc) := TR.out.cell 0
 have xr1 : wa.cell? ⟨w.heap.size + 1, 1, none⟩ = some (.int .i64 rn) := TR.out.cell 1
 have xr2 : wa.cell? ⟨w.heap.size + 1, 2, none⟩ = some (.int .i64 ro) := TR.out.cell 2
 have xr3 : wa.cell? ⟨w.heap.size + 1, 3, none⟩ = some (.int .i64 rx) := TR.out.cell 3
 have xr4 : wa.cell? ⟨w.heap.size + 1, 4, none⟩ = some (.int .i64 ry) := TR.out.cell 4
 go_wp2_with (fail)
 refine (okOrNull ⟨rc, rn, ro, rx, ry⟩ _).mono ?_
 rintro e wb ⟨rfl, hb⟩
 rw [HOK.out]
 clear xr0 xr1 xr2 xr3 xr4
 have BF := Lib.hid (Below.and BF.out hb)
 have T0 := Lib.hid (T0.out.below hb (by have := SZ.out; omega))
 have T1 := Lib.hid (T1.out.below hb (by have := SZ.out; omega))
 have TR := Lib.hid (TR.out.below hb)
 have SZ := Lib.hid (show w.heap.size + 3 ≤ wb.heap.size by have := hb.size; have := SZ.out; omega)
 clear hb
 obtain ⟨y0, y1, y2⟩ := T0.out.cells
 have HO := Lib.hid (okG_of HGB.out)
 have HGz := Lib.hid (HG0.out.below BF.out)
 go_wp2_with (fail)
 refine (copyGame A a B b C d E F L _ HO.out.e.len (by rw [HO.out.f]; omega) (by rw [HO.out.l]; omega) HGz.out.rE HGz.out.rF HGz.out.rL (nil_cap HGz.out.nA) (nil_cap HGz.out.nB) (nil_cap HGz.out.nC)).mono ?_
 rintro e wc ⟨A1, a1, B1, b1, C1, d1, rfl, oE, oF, oL, q1, q2, q3, hb⟩
 clear y0 y1 y2 HGz
 have HB := Lib.hid (Bd.new ⟨oE, oF, oL, q1, q2, q3⟩ hb.size)
 have LO := Lib.hid SZ.out
 clear oE oF oL q1 q2 q3
 have BF := Lib.hid (Below.and BF.out hb)
 have T0 := Lib.hid (T0.out.below hb (by have := SZ.out; omega))
 have T1 := Lib.hid (T1.out.below hb (by have := SZ.out; omega))
 have TR := Lib.hid (TR.out.below hb)
 have SZ := Lib.hid (show w.heap.size + 3 ≤ wc.heap.size by have := hb.size; have := SZ.out; omega)
 clear hb
 unfold gameV
 have xr0 : wc.cell? ⟨w.heap.size + 1, 0, none⟩ = some (.int .i64 rc) := TR.out.cell 0
 have xr1 : wc.cell? ⟨w.heap.size + 1, 1, none⟩ = some (.int .i64 rn) := TR.out.cell 1
 have xr2 : wc.cell? ⟨w.heap.size + 1, 2, none⟩ = some (.int .i64 ro) := TR.out.cell 2
 have xr3 : wc.cell? ⟨w.heap.size + 1, 3, none⟩ = some (.int .i64 rx) := TR.out.cell 3
 have xr4 : wc.cell? ⟨w.heap.size + 1, 4, none⟩ = some (.int .i64 ry) := TR.out.cell 4
 have l9 : w.heap.size + 1 < wc.heap.size := by have := SZ.out; omega
 go_wp2_with (fail)
 clear xr0 xr1 xr2 xr3 xr4
 clear l9
 have hb0 : Below wc.heap.size wc (wc.alloc (.cells #[.slice A1 E.length a1, .slice B1 F.length b1, .slice C1 L.length d1] 29)) := (Below.refl _ _).alloc (Nat.le_refl _) _
 refine (isNull ⟨rc, rn, ro, rx, ry⟩ _).mono ?_
 rintro e we ⟨rfl, hb1⟩
 rw [HN.out]
 have HB := Lib.hid (HB.out.below hb1)
 have hb := Below.and hb0 hb1
 clear hb0 hb1
 have BF := Lib.hid (Below.and BF.out hb)
 have T0 := Lib.hid (T0.out.below hb (by have := SZ.out; omega))
 have T1 := Lib.hid (T1.out.below hb (by have := SZ.out; omega))
 have TR := Lib.hid (TR.out.below hb)
 have SZ := Lib.hid (show w.heap.size + 3 ≤ we.heap.size by have := hb.size; have := SZ.out; omega)
 clear hb
 obtain ⟨q, rfl, hq1, hq2⟩ := own_some HB.out.l (by omega)
 have xb : we.cell? ⟨q, j, none⟩ = some (.int .i64 v) := by rw [HB.out.l.cellAt j (by simp; omega)]; simp [hjl, HV.out]
 obtain ⟨v0, v1, v2⟩ := HB.out.at_.cells
 have m0 := HB.out.at_.lt
 have xr0 : we.cell? ⟨w.heap.size + 1, 0, none⟩ = some (.int .i64 rc) := TR.out.cell 0
 have xr1 : we.cell? ⟨w.heap.size + 1, 1, none⟩ = some (.int .i64 rn) := TR.out.cell 1
 have l1 : w.heap.size < we.heap.size := by have := SZ.out; omega
 have l2 : w.heap.size + 1 < we.heap.size := by have := SZ.out; omega
 have l3 : q < we.heap.size := hq2
 go_wp2_with (fail)
 refine wp_region_held_drew (S := fun w1 => Below we.heap.size we w1) (by kernel_rfl) ((Below.refl _ _).drew) (fun hq => ?_)
 refine tkI 0 22 (v := ?_) rfl rfl ?_ ?_
 rotate_left
 · intro w1 hSw; obtain ⟨hcS, hfS⟩ := bcell hSw; go_simp; (try with_reducible rfl)
 (try simp only [Act.put, pu1, pu2, pu3])
 refine tkI 1 23 (v := ?_) rfl rfl ?_ ?_
 rotate_left
 · intro w1 hSw; obtain ⟨hcS, hfS⟩ := bcell hSw; go_simp; (try with_reducible rfl)
 (try simp only [Act.put, pu1, pu2, pu3])
 refine tkI 2 24 (v := ?_) rfl rfl ?_ ?_
 rotate_left
 · intro w1 hSw; obtain ⟨hcS, hfS⟩ := bcell hSw; go_simp; (try with_reducible rfl)
 (try simp only [Act.put, pu1, pu2, pu3])
 refine tkI 3 25 (v := ?_) rfl rfl ?_ ?_
 rotate_left
 · intro w1 hSw; obtain ⟨hcS, hfS⟩ := bcell hSw; go_simp; (try with_reducible rfl)
 (try simp only [Act.put, pu1, pu2, pu3])
 refine tkI 4 26 (v := ?_) rfl rfl ?_ ?_
 rotate_left
 · intro w1 hSw; obtain ⟨hcS, hfS⟩ := bcell hSw; go_simp; (try with_reducible rfl)
 (try simp only [Act.put, pu1, pu2, pu3])
 refine tkI 5 27 (v := ?_) rfl rfl ?_ ?_
 rotate_left
 · intro w1 hSw; obtain ⟨hcS, hfS⟩ := bcell hSw; go_simp; (try with_reducible rfl)
 (try simp only [Act.put, pu1, pu2, pu3])
 refine tkI 6 28 (v := ?_) rfl rfl ?_ ?_
 rotate_left
 · intro w1 hSw; obtain ⟨hcS, hfS⟩ := bcell hSw; go_simp; (try with_reducible rfl)
 (try simp only [Act.put, pu1, pu2, pu3])
 refine tkI 7 29 (v := ?_) rfl rfl ?_ ?_
 rotate_left
 · intro w1 hSw; obtain ⟨hcS, hfS⟩ := bcell hSw; go_simp; (try with_reducible rfl)
 (try simp only [Act.put, pu1, pu2, pu3])
 refine tkI 8 30 (v := ?_) rfl rfl ?_ ?_
 rotate_left
 · intro w1 hSw; obtain ⟨hcS, hfS⟩ := bcell hSw; go_simp; (try with_reducible rfl)
 (try simp only [Act.put, pu1, pu2, pu3])
 refine tkI 9 31 (v := ?_) rfl rfl ?_ ?_
 rotate_left
 · intro w1 hSw; obtain ⟨hcS, hfS⟩ := bcell hSw; go_simp; (try with_reducible rfl)
 (try simp only [Act.put, pu1, pu2, pu3])
 refine wpAnyH_done (by kernel_rfl) ?_ _
 clear v0 v1 v2 m0 xr0 xr1 l1 l2 l3 xb
 obtain ⟨v0, v1, v2⟩ := HB.out.at_.cells
 obtain ⟨z0, z1, z2⟩ := T1.out.cells
 have zf := T1.out.frozen
 have HOw := Lib.hid (HB.out.drew.own)
 have BF := Lib.hid (Below.and BF.out (Below.refl we.heap.size we).drew)
 have BG : ∀ p0 p1 p2 : Value, Below w.heap.size w (((we.drew.setCell ⟨w.heap.size + 1 + 1, 0, none⟩ p0).setCell ⟨w.heap.size + 1 + 1, 1, none⟩ p1).setCell ⟨w.heap.size + 1 + 1, 2, none⟩ p2) := fun p0 p1 p2 => by
  iterate 3 (refine Below.setCell ?_ (by first | (simp; done) | (simp; omega)) _)
  exact BF.out
 go_wp2
 refine bodyPost_ret (v := .tuple #[.agg #[.slice A1 E.length a1, .slice B1 F.length b1, .slice (some ⟨q, 0, none⟩) L.length d1], .int .i64 3]) (by simp [results, Try.results36, go_sem, v0, v1, v2, z0, z1, z2]) rfl ⟨A1, a1, B1, b1, some ⟨q, 0, none⟩, d1, rfl, ?_, BG _ _ _⟩
 exact (((HOw.out.put (by have := LO.out; omega) 0 _).put (by have := LO.out; omega) 1 _).put (by have := LO.out; omega) 2 _).base (by have := LO.out; omega)
set_option maxRecDepth 100000 in
set_option maxHeartbeats 8000000 in
theorem stepGoesI (A : Option Addr) (a : Nat) (B : Option Addr) (b : Nat) (C : Option Addr) (d : Nat) (E : List Fig) (F L : List Int) (rc rn ro rx ry : Int) (w : World) (hE : E.length ≤ 1048576) (hF : F.length ≤ 1048576) (hL : L.length ≤ 1048576) (hgb : gokB E F L = true) (hok : okB ⟨rc, rn, ro, rx, ry⟩ = true) (hq : reqB rc rn ro rx ry = true) (hn : nullB ⟨rc, rn, ro, rx, ry⟩ = false) (j : Nat) (v : Int) (hj : rc - 1 = (j : Int)) (hjl : j < L.length) (hv : L[j]'hjl = v) (hc : 1 ≤ rc ∧ rc ≤ 4) (hlt : ¬ rn ≤ v) (hg : GmR w A a B b C d E F L) :
 Calls Try.prog 36 #[gameV A E.length a B F.length b C L.length d, .agg #[.int .i64 rc, .int .i64 rn, .int .i64 ro, .int .i64 rx, .int .i64 ry]] w (DoI (perfG E F (L.set j rn) ⟨rc, rn, ro, rx, ry⟩) w) := by
 obtain ⟨X, hX⟩ : ∃ X, X = perfG E F (L.set j rn) ⟨rc, rn, ro, rx, ry⟩ := ⟨_, rfl⟩
 rw [← hX]
 have HXE := Lib.hid hX
 clear hX
 have HOK := Lib.hid hok
 clear hok
 have HN := Lib.hid hn
 clear hn
 have q1 : IntKind.i64.wrap (rc - 1) = (j : Int) := by rw [hj]; exact IntWalk.i64_in _ (by omega)
 have i2 : (0 : Int) ≤ (j : Int) := by omega
 have i3 : (j : Int) < (L.length : Int) := by omega
 have HV := Lib.hid hv
 have HJ := Lib.hid hj
 clear hj hv
 have e3 : decide (rn ≤ v) = false := by simpa using hlt
 have HQ := Lib.hid hq
 clear hq
 have BW : Hid (Below w.heap.size w (((w.alloc (.cells #[.slice A E.length a, .slice B F.length b, .slice C L.length d] 29)).alloc (.cells #[.int .i64 rc, .int .i64 rn, .int .i64 ro, .int .i64 rx, .int .i64 ry] 49)).alloc (.cells #[.slice none 0 0, .slice none 0 0, .slice none 0 0] 29))) := ((below_alloc2 w _ _).alloc (by simp; omega) _)
 have HSW : Hid ((((w.alloc (.cells #[.slice A E.length a, .slice B F.length b, .slice C L.length d] 29)).alloc (.cells #[.int .i64 rc, .int .i64 rn, .int .i64 ro, .int .i64 rx, .int .i64 ry] 49)).alloc (.cells #[.slice none 0 0, .slice none 0 0, .slice none 0 0] 29)).heap.size = w.heap.size + 3) := by show _ = _; simp
 have K0 : Hid (Three (((w.alloc (.cells #[.slice A E.length a, .slice B F.length b, .slice C L.length d] 29)).alloc (.cells #[.int .i64 rc, .int .i64 rn, .int .i64 ro, .int .i64 rx, .int .i64 ry] 49)).alloc (.cells #[.slice none 0 0, .slice none 0 0, .slice none 0 0] 29)) w.heap.size 29 (.slice A E.length a) (.slice B F.length b) (.slice C L.length d)) := ((Three.new w).alloc _).alloc _
 have KR : Hid (Bkk (((w.alloc (.cells #[.slice A E.length a, .slice B F.length b, .slice C L.length d] 29)).alloc (.cells #[.int .i64 rc, .int .i64 rn, .int .i64 ro, .int .i64 rx, .int .i64 ry] 49)).alloc (.cells #[.slice none 0 0, .slice none 0 0, .slice none 0 0] 29)) (w.heap.size + 1) 49 #[.int .i64 rc, .int .i64 rn, .int .i64 ro, .int .i64 rx, .int .i64 ry]) := by have := (Bkk.new (t := 49) (cs := #[.int .i64 rc, .int .i64 rn, .int .i64 ro, .int .i64 rx, .int .i64 ry]) (w.alloc (.cells #[.slice A E.length a, .slice B F.length b, .slice C L.length d] 29))).alloc (.cells #[.slice none 0 0, .slice none 0 0, .slice none 0 0] 29); simpa [Hid] using this
 have K1 : Hid (Three (((w.alloc (.cells #[.slice A E.length a, .slice B F.length b, .slice C L.length d] 29)).alloc (.cells #[.int .i64 rc, .int .i64 rn, .int .i64 ro, .int .i64 rx, .int .i64 ry] 49)).alloc (.cells #[.slice none 0 0, .slice none 0 0, .slice none 0 0] 29)) (w.heap.size + 1 + 1) 29 (.slice none 0 0) (.slice none 0 0) (.slice none 0 0)) := by have := Three.new (t := 29) (u0 := .slice none 0 0) (u1 := .slice none 0 0) (u2 := .slice none 0 0) ((w.alloc (.cells #[.slice A E.length a, .slice B F.length b, .slice C L.length d] 29)).alloc (.cells #[.int .i64 rc, .int .i64 rn, .int .i64 ro, .int .i64 rx, .int .i64 ry] 49)); simpa [Hid] using this
 have HG0 := Lib.hid hg
 have HGB := Lib.hid hgb
 have HG := Lib.hid (hg.below BW.out)
 have BF := BW
 have T0 := K0
 have T1 := K1
 have TR := KR
 have SZ := Lib.hid (show w.heap.size + 3 ≤ (((w.alloc (.cells #[.slice A E.length a, .slice B F.length b, .slice C L.length d] 29)).alloc (.cells #[.int .i64 rc, .int .i64 rn, .int .i64 ro, .int .i64 rx, .int .i64 ry] 49)).alloc (.cells #[.slice none 0 0, .slice none 0 0, .slice none 0 0] 29)).heap.size by rw [HSW.out]; omega)
 clear K0 K1 KR HSW BW
 clear hg hgb
 unfold gameV
 go_enter Try.func36, Try.ntmps36
 go_wp2_with (fail)
 refine (gameOk A a B b C d E F L _ hE hF hL HG.out.rE HG.out.rF HG.out.rL).mono ?_
 rintro e wa ⟨rfl, hb⟩
 rw [HGB.out]
 have BF := Lib.hid (Below.and BF.out hb)
 have T0 := Lib.hid (T0.out.below hb (by have := SZ.out; omega))
 have T1 := Lib.hid (T1.out.below hb (by have := SZ.out; omega))
 have TR := Lib.hid (TR.out.below hb)
 have SZ := Lib.hid (show w.heap.size + 3 ≤ wa.heap.size by have := hb.size; have := SZ.out; omega)
 clear hb
 have xr0 : wa.cell? ⟨w.heap.size + 1, 0, none⟩ = some (.int .i64 rc) := TR.out.cell 0
 have xr1 : wa.cell? ⟨w.heap.size + 1, 1, none⟩ = some (.int .i64 rn) := TR.out.cell 1
 have xr2 : wa.cell? ⟨w.heap.size + 1, 2, none⟩ = some (.int .i64 ro) := TR.out.cell 2
 have xr3 : wa.cell? ⟨w.heap.size + 1, 3, none⟩ = some (.int .i64 rx) := TR.out.cell 3
 have xr4 : wa.cell? ⟨w.heap.size + 1, 4, none⟩ = some (.int .i64 ry) := TR.out.cell 4
 go_wp2_with (fail)
 refine (okOrNull ⟨rc, rn, ro, rx, ry⟩ _).mono ?_
 rintro e wb ⟨rfl, hb⟩
 rw [HOK.out]
 clear xr0 xr1 xr2 xr3 xr4
 have BF := Lib.hid (Below.and BF.out hb)
 have T0 := Lib.hid (T0.out.below hb (by have := SZ.out; omega))
 have T1 := Lib.hid (T1.out.below hb (by have := SZ.out; omega))
 have TR := Lib.hid (TR.out.below hb)
 have SZ := Lib.hid (show w.heap.size + 3 ≤ wb.heap.size by have := hb.size; have := SZ.out; omega)
 clear hb
 obtain ⟨y0, y1, y2⟩ := T0.out.cells
 have HO := Lib.hid (okG_of HGB.out)
 have HGz := Lib.hid (HG0.out.below BF.out)
 go_wp2_with (fail)
 refine (copyGame A a B b C d E F L _ HO.out.e.len (by rw [HO.out.f]; omega) (by rw [HO.out.l]; omega) HGz.out.rE HGz.out.rF HGz.out.rL (nil_cap HGz.out.nA) (nil_cap HGz.out.nB) (nil_cap HGz.out.nC)).mono ?_
 rintro e wc ⟨A1, a1, B1, b1, C1, d1, rfl, oE, oF, oL, q1, q2, q3, hb⟩
 clear y0 y1 y2 HGz
 have HB := Lib.hid (Bd.new ⟨oE, oF, oL, q1, q2, q3⟩ hb.size)
 have LO := Lib.hid SZ.out
 clear oE oF oL q1 q2 q3
 have BF := Lib.hid (Below.and BF.out hb)
 have T0 := Lib.hid (T0.out.below hb (by have := SZ.out; omega))
 have T1 := Lib.hid (T1.out.below hb (by have := SZ.out; omega))
 have TR := Lib.hid (TR.out.below hb)
 have SZ := Lib.hid (show w.heap.size + 3 ≤ wc.heap.size by have := hb.size; have := SZ.out; omega)
 clear hb
 unfold gameV
 have xr0 : wc.cell? ⟨w.heap.size + 1, 0, none⟩ = some (.int .i64 rc) := TR.out.cell 0
 have xr1 : wc.cell? ⟨w.heap.size + 1, 1, none⟩ = some (.int .i64 rn) := TR.out.cell 1
 have xr2 : wc.cell? ⟨w.heap.size + 1, 2, none⟩ = some (.int .i64 ro) := TR.out.cell 2
 have xr3 : wc.cell? ⟨w.heap.size + 1, 3, none⟩ = some (.int .i64 rx) := TR.out.cell 3
 have xr4 : wc.cell? ⟨w.heap.size + 1, 4, none⟩ = some (.int .i64 ry) := TR.out.cell 4
 have l9 : w.heap.size + 1 < wc.heap.size := by have := SZ.out; omega
 go_wp2_with (fail)
 clear xr0 xr1 xr2 xr3 xr4
 clear l9
 have hb0 : Below wc.heap.size wc (wc.alloc (.cells #[.slice A1 E.length a1, .slice B1 F.length b1, .slice C1 L.length d1] 29)) := (Below.refl _ _).alloc (Nat.le_refl _) _
 refine (isNull ⟨rc, rn, ro, rx, ry⟩ _).mono ?_
 rintro e we ⟨rfl, hb1⟩
 rw [HN.out]
 have HB := Lib.hid (HB.out.below hb1)
 have hb := Below.and hb0 hb1
 clear hb0 hb1
 have BF := Lib.hid (Below.and BF.out hb)
 have T0 := Lib.hid (T0.out.below hb (by have := SZ.out; omega))
 have T1 := Lib.hid (T1.out.below hb (by have := SZ.out; omega))
 have TR := Lib.hid (TR.out.below hb)
 have SZ := Lib.hid (show w.heap.size + 3 ≤ we.heap.size by have := hb.size; have := SZ.out; omega)
 clear hb
 obtain ⟨q, rfl, hq1, hq2⟩ := own_some HB.out.l (by omega)
 have xb : we.cell? ⟨q, j, none⟩ = some (.int .i64 v) := by rw [HB.out.l.cellAt j (by simp; omega)]; simp [hjl, HV.out]
 obtain ⟨v0, v1, v2⟩ := HB.out.at_.cells
 have m0 := HB.out.at_.lt
 have xr0 : we.cell? ⟨w.heap.size + 1, 0, none⟩ = some (.int .i64 rc) := TR.out.cell 0
 have xr1 : we.cell? ⟨w.heap.size + 1, 1, none⟩ = some (.int .i64 rn) := TR.out.cell 1
 have l1 : w.heap.size < we.heap.size := by have := SZ.out; omega
 have l2 : w.heap.size + 1 < we.heap.size := by have := SZ.out; omega
 have l3 : q < we.heap.size := hq2
 go_wp2_with (fail)
 refine wp_region_held_drew (S := fun w1 => Below we.heap.size we w1) (by kernel_rfl) ((Below.refl _ _).drew) (fun hq => ?_)
 refine tkI 0 22 (v := ?_) rfl rfl ?_ ?_
 rotate_left
 · intro w1 hSw; obtain ⟨hcS, hfS⟩ := bcell hSw; go_simp; (try with_reducible rfl)
 (try simp only [Act.put, pu1, pu2, pu3])
 refine tkI 1 23 (v := ?_) rfl rfl ?_ ?_
 rotate_left
 · intro w1 hSw; obtain ⟨hcS, hfS⟩ := bcell hSw; go_simp; (try with_reducible rfl)
 (try simp only [Act.put, pu1, pu2, pu3])
 refine tkI 2 24 (v := ?_) rfl rfl ?_ ?_
 rotate_left
 · intro w1 hSw; obtain ⟨hcS, hfS⟩ := bcell hSw; go_simp; (try with_reducible rfl)
 (try simp only [Act.put, pu1, pu2, pu3])
 refine tkI 3 25 (v := ?_) rfl rfl ?_ ?_
 rotate_left
 · intro w1 hSw; obtain ⟨hcS, hfS⟩ := bcell hSw; go_simp; (try with_reducible rfl)
 (try simp only [Act.put, pu1, pu2, pu3])
 refine tkI 4 26 (v := ?_) rfl rfl ?_ ?_
 rotate_left
 · intro w1 hSw; obtain ⟨hcS, hfS⟩ := bcell hSw; go_simp; (try with_reducible rfl)
 (try simp only [Act.put, pu1, pu2, pu3])
 refine tkI 5 27 (v := ?_) rfl rfl ?_ ?_
 rotate_left
 · intro w1 hSw; obtain ⟨hcS, hfS⟩ := bcell hSw; go_simp; (try with_reducible rfl)
 (try simp only [Act.put, pu1, pu2, pu3])
 refine tkI 6 28 (v := ?_) rfl rfl ?_ ?_
 rotate_left
 · intro w1 hSw; obtain ⟨hcS, hfS⟩ := bcell hSw; go_simp; (try with_reducible rfl)
 (try simp only [Act.put, pu1, pu2, pu3])
 refine tkI 7 29 (v := ?_) rfl rfl ?_ ?_
 rotate_left
 · intro w1 hSw; obtain ⟨hcS, hfS⟩ := bcell hSw; go_simp; (try with_reducible rfl)
 (try simp only [Act.put, pu1, pu2, pu3])
 refine tkI 8 30 (v := ?_) rfl rfl ?_ ?_
 rotate_left
 · intro w1 hSw; obtain ⟨hcS, hfS⟩ := bcell hSw; go_simp; (try with_reducible rfl)
 (try simp only [Act.put, pu1, pu2, pu3])
 refine tkI 9 31 (v := ?_) rfl rfl ?_ ?_
 rotate_left
 · intro w1 hSw; obtain ⟨hcS, hfS⟩ := bcell hSw; go_simp; (try with_reducible rfl)
 (try simp only [Act.put, pu1, pu2, pu3])
 refine wpAnyH_done (by kernel_rfl) ?_ _
 clear v0 v1 v2 m0 xr0 xr1 l1 l2 l3 xb
 obtain ⟨v0, v1, v2⟩ := HB.out.at_.cells
 have ff := fun i => HB.out.l.frozenAt i
 have xq : ∃ u, we.cell? ⟨q, j, none⟩ = some u := ⟨.int .i64 v, by rw [HB.out.l.cellAt j (by simp; omega)]; simp [hjl, HV.out]⟩
 obtain ⟨u, xq⟩ := xq
 have xr0 : we.cell? ⟨w.heap.size + 1, 0, none⟩ = some (.int .i64 rc) := TR.out.cell 0
 have xr1 : we.cell? ⟨w.heap.size + 1, 1, none⟩ = some (.int .i64 rn) := TR.out.cell 1
 have xr2 : we.cell? ⟨w.heap.size + 1, 2, none⟩ = some (.int .i64 ro) := TR.out.cell 2
 have xr3 : we.cell? ⟨w.heap.size + 1, 3, none⟩ = some (.int .i64 rx) := TR.out.cell 3
 have xr4 : we.cell? ⟨w.heap.size + 1, 4, none⟩ = some (.int .i64 ry) := TR.out.cell 4
 have HB8 := Lib.hid (HB.out.drew.setL j hjl rn)
 have qlo : w.heap.size + 3 ≤ q := by have := LO.out; omega
 have n1 : ¬ w.heap.size + 1 = q := by omega
 have n2 : ¬ q = w.heap.size + 1 := by omega
 have TR8 : Hid (Bkk (we.drew.setCell ⟨q, j, none⟩ (.int .i64 rn)) (w.heap.size + 1) 49 #[.int .i64 rc, .int .i64 rn, .int .i64 ro, .int .i64 rx, .int .i64 ry]) := Bkk.far (w := we.drew) TR.out (show w.heap.size + 1 ≠ q by omega) j (.int .i64 rn)
 have T18 := Lib.hid (T1.out.drew.far (show w.heap.size + 1 + 1 ≠ q by omega) (j := j) (.int .i64 rn))
 have BF8 := Lib.hid ((Below.and BF.out (Below.refl we.heap.size we).drew).setCell (show w.heap.size ≤ q by omega) (p := ⟨q, j, none⟩) (.int .i64 rn))
 have hl : (L.set j rn).length = L.length := List.length_set
 have HPF := performI HB8.out (he := HO.out.e) ⟨HO.out.f, HO.out.fb⟩ rc rn ro rx ry HQ.out
 rw [← HXE.out] at HPF
 have HPF := Lib.hid HPF
 clear hq HB
 go_wp2_with (fail)
 refine HPF.out.mono ?_
 unfold StepB
 rintro e wf ⟨rfl, ⟨A2, a2, hB⟩, hb⟩
 have HX := Lib.hid (show X.1.2.2 = L.set j rn by rw [HXE.out]; exact perfG_L _ _ _ _)
 have HBf := Lib.hid hB
 have lo8 : wb.heap.size ≤ (we.drew.setCell ⟨q, j, none⟩ (.int .i64 rn)).heap.size := HB8.out.low
 have T1f := Lib.hid (T18.out.below hb (by have := LO.out; omega))
 have BFf := Lib.hid (BF8.out.trans (hb.mono (by have := LO.out; omega)))
 clear hb hB v0 v1 v2 ff xq xr0 xr1 xr2 xr3 xr4
 obtain ⟨v0, v1, v2⟩ := HBf.out.at_.cells
 obtain ⟨z0, z1, z2⟩ := T1f.out.cells
 have zf := T1f.out.frozen
 have BF := BFf
 have BG : ∀ p0 p1 p2 : Value, Below w.heap.size w (((wf.setCell ⟨w.heap.size + 1 + 1, 0, none⟩ p0).setCell ⟨w.heap.size + 1 + 1, 1, none⟩ p1).setCell ⟨w.heap.size + 1 + 1, 2, none⟩ p2) := fun p0 p1 p2 => by
  iterate 3 (refine Below.setCell ?_ (by first | (simp; done) | (simp; omega)) _)
  exact BF.out
 go_wp2
 refine bodyPost_ret (v := .tuple #[.agg #[.slice A2 X.1.1.length a2, .slice B1 X.1.2.1.length b1, .slice (some ⟨q, 0, none⟩) (L.set j rn).length d1], .int .i64 X.2]) (by simp [results, Try.results36, go_sem, v0, v1, v2, z0, z1, z2]) rfl ⟨A2, a2, B1, b1, some ⟨q, 0, none⟩, d1, by rw [HX.out], ?_, BG _ _ _⟩
 rw [HX.out]
 exact (((HBf.out.own.put (by have := LO.out; omega) 0 _).put (by have := LO.out; omega) 1 _).put (by have := LO.out; omega) 2 _).base (by have := LO.out; omega)
set_option maxRecDepth 100000 in
set_option maxHeartbeats 400000 in
theorem implGameDo (A : Option Addr) (a : Nat) (B : Option Addr) (b : Nat) (C : Option Addr) (d : Nat) (E : List Fig) (F L : List Int) (r : Rq) (w : World) (hE : E.length ≤ 1048576) (hF : F.length ≤ 1048576) (hL : L.length ≤ 1048576) (hg : GmR w A a B b C d E F L) :
 Calls Try.prog 36 #[gameV A E.length a B F.length b C L.length d, r.val] w (DoI (stepG E F L r) w) := by
 obtain ⟨rc, rn, ro, rx, ry⟩ := r
 rcases hgb : gokB E F L with _ | _
 · have hA : stepG E F L ⟨rc, rn, ro, rx, ry⟩ = (([], [], []), 1) := by simp [stepG, hgb]
   rw [hA]
   exact stepBadI1 A a B b C d E F L rc rn ro rx ry w hE hF hL hgb hg.gl
 rcases hok : okB ⟨rc, rn, ro, rx, ry⟩ with _ | _
 · have hA : stepG E F L ⟨rc, rn, ro, rx, ry⟩ = (([], [], []), 1) := by simp [stepG, hok]
   rw [hA]
   exact stepBadI2 A a B b C d E F L rc rn ro rx ry w hE hF hL hgb hok hg
 have hA : stepG E F L ⟨rc, rn, ro, rx, ry⟩ = doG E F L ⟨rc, rn, ro, rx, ry⟩ := by simp [stepG, hgb, hok]
 rw [hA]
 clear hA
 rcases hn : nullB ⟨rc, rn, ro, rx, ry⟩ with _ | _
 rotate_left
 · have hA : doG E F L ⟨rc, rn, ro, rx, ry⟩ = ((E, F, L), 2) := by unfold doG; rw [if_pos hn]
   rw [hA]
   exact stepNullI A a B b C d E F L rc rn ro rx ry w hE hF hL hgb hok hn hg
 have hq : rqB ⟨rc, rn, ro, rx, ry⟩ = true := by simpa [okB, hn] using hok
 have hq2 : reqB rc rn ro rx ry = true := by simpa [rqB] using hq
 have hc : 1 ≤ rc ∧ rc ≤ 4 := by
  have := hq
  simp only [rqB, reqB, inB, Bool.and_eq_true, decide_eq_true_eq] at this
  exact this.1
 have hl := (okG_of hgb).l
 obtain ⟨j, hj⟩ : ∃ j : Nat, rc - 1 = (j : Int) := ⟨(rc - 1).toNat, by omega⟩
 have hjl : j < L.length := by omega
 have hjt : (rc - 1).toNat = j := by omega
 have hv : L.getD (rc - 1).toNat 0 = L[j]'hjl := by rw [hjt, List.getD, List.getElem?_eq_getElem hjl]; rfl
 have hnn : ¬ nullB ⟨rc, rn, ro, rx, ry⟩ = true := by rw [hn]; decide
 by_cases hle : rn ≤ L[j]'hjl
 · have hA : doG E F L ⟨rc, rn, ro, rx, ry⟩ = ((E, F, L), 3) := by unfold doG; rw [if_neg hnn]; simp only; rw [hv, if_pos hle]
   rw [hA]
   exact stepOldI A a B b C d E F L rc rn ro rx ry w hE hF hL hgb hok hn j _ hj hjl rfl hc hle hg
 · have hA : doG E F L ⟨rc, rn, ro, rx, ry⟩ = perfG E F (L.set j rn) ⟨rc, rn, ro, rx, ry⟩ := by
    unfold doG; rw [if_neg hnn]; simp only; rw [hv, if_neg hle, hjt]; rfl
   rw [hA]
   exact stepGoesI A a B b C d E F L rc rn ro rx ry w hE hF hL hgb hok hq2 hn j _ hj hjl rfl hc hle hg
end Go.Proofs.Ytameldhdegcpoaa
namespace Go.Proofs.Ytameldhdegcpoaa
open Go.ChangeShapes Go.WideShapes Go.ChangeAt Go.RowKit
set_option linter.unusedVariables false
set_option linter.unusedSimpArgs false
theorem RdF.same {w w' : World} {A : Option Addr} {E : List Fig} (h : RdF w A E) (hk : ∀ x, A = some ⟨x, 0, none⟩ → w'.heap[x]? = w.heap[x]?) : RdF w' A E := fun i hi => by
 obtain ⟨g, hg, a0, a1, a2, a3, a4⟩ := h i hi
 have e := hk g hg
 exact ⟨g, hg, (World.cell?_of_block (a := ⟨g, _, none⟩) e).trans a0, (World.cell?_of_block (a := ⟨g, _, none⟩) e).trans a1, (World.cell?_of_block (a := ⟨g, _, none⟩) e).trans a2, (World.cell?_of_block (a := ⟨g, _, none⟩) e).trans a3, (World.cell?_of_block (a := ⟨g, _, none⟩) e).trans a4⟩
theorem RdI.same {w w' : World} {A : Option Addr} {l : List Int} (h : RdI w A l) (hk : ∀ x, A = some ⟨x, 0, none⟩ → w'.heap[x]? = w.heap[x]?) : RdI w' A l := fun i hi => by
 obtain ⟨g, hg, a0⟩ := h i hi
 exact ⟨g, hg, (World.cell?_of_block (a := ⟨g, _, none⟩) (hk g hg)).trans a0⟩
structure RdG (w : World) (hi : Nat) (A B C : Option Addr) (E : List Fig) (F L : List Int) : Prop where
 e : RdF w A E
 f : RdI w B F
 l : RdI w C L
 ae : ∀ x, A = some ⟨x, 0, none⟩ → x < hi
 bf : ∀ x, B = some ⟨x, 0, none⟩ → x < hi
 cl : ∀ x, C = some ⟨x, 0, none⟩ → x < hi
theorem GmR.rd {w : World} {A : Option Addr} {a : Nat} {B : Option Addr} {b : Nat} {C : Option Addr} {d : Nat} {E : List Fig} {F L : List Int} (h : GmR w A a B b C d E F L) : RdG w w.heap.size A B C E F L := ⟨h.rE, h.rF, h.rL, h.lA, h.lB, h.lC⟩
theorem RdG.below {w w' : World} {hi : Nat} {A B C : Option Addr} {E : List Fig} {F L : List Int} (h : RdG w hi A B C E F L) (hb : Below w.heap.size w w') : RdG w' hi A B C E F L := ⟨RdF.below h.e hb, RdI.below h.f hb, RdI.below h.l hb, h.ae, h.bf, h.cl⟩
theorem RdG.keeps {w w' : World} {hi lo' hi' : Nat} {A B C : Option Addr} {E : List Fig} {F L : List Int} (h : RdG w hi A B C E F L) (hw : hi ≤ w.heap.size) (hk : Keeps lo' hi' w w') (ho : hi ≤ lo') : RdG w' hi A B C E F L :=
 ⟨h.e.same fun x hx => hk.block x (by have := h.ae x hx; omega) (.inl (by have := h.ae x hx; omega)), h.f.same fun x hx => hk.block x (by have := h.bf x hx; omega) (.inl (by have := h.bf x hx; omega)), h.l.same fun x hx => hk.block x (by have := h.cl x hx; omega) (.inl (by have := h.cl x hx; omega)), h.ae, h.bf, h.cl⟩
theorem GameAt.gmR {w : World} {lo hi : Nat} {A : Option Addr} {a : Nat} {B : Option Addr} {b : Nat} {C : Option Addr} {d : Nat} {E : List Fig} {F L : List Int} (h : GameAt w lo hi A a B b C d E F L) : GmR w A a B b C d E F L :=
 ⟨RdF.of_own h.ents, RdI.of_own h.floor, RdI.of_own h.last, (own_cap h.ents).1, (own_cap h.floor).1, (own_cap h.last).1, (own_cap h.ents).2, (own_cap h.floor).2, (own_cap h.last).2, (fun x hx => (own_at h.ents x hx).2), (fun x hx => (own_at h.floor x hx).2), (fun x hx => (own_at h.last x hx).2)⟩
theorem OwG.game {w : World} {lo : Nat} {A : Option Addr} {a : Nat} {B : Option Addr} {b : Nat} {C : Option Addr} {d : Nat} {E : List Fig} {F L : List Int} (h : OwG w lo A a B b C d E F L) : GameAt w lo w.heap.size A a B b C d E F L :=
 ⟨h.e, h.f, h.l, h.fl, (fun g hg => (own_block_ge h.e g hg).2), (fun g hg => (own_block_ge h.f g hg).2), (fun g hg => (own_block_ge h.l g hg).2)⟩
theorem eqGame_rd {w : World} {hi hi' : Nat} {A B C A' B' C' : Option Addr} {a b c a' b' c' : Nat} {E : List Fig} {F L : List Int} (h : RdG w hi A B C E F L) (h' : RdG w hi' A' B' C' E F L) (hE : E.length ≤ 1048576) (hF : F.length ≤ 1048576) (hL : L.length ≤ 1048576) :
 Calls Try.prog 15 #[gameV A E.length a B F.length b C L.length c, gameV A' E.length a' B' F.length b' C' L.length c'] w fun e w' => e = .returned (.bool true) ∧ Below w.heap.size w w' := by
 have := eqGame A B C A' B' C' a b c a' b' c' E E F F L L w (by unfold maxLen; omega) (by unfold maxLen; omega) (by unfold maxLen; omega) (by unfold maxLen; omega) (by unfold maxLen; omega) h.e h.f h.l h'.e h'.f h'.l
 simpa using this
theorem GameAt.rd {w : World} {lo hi : Nat} {A : Option Addr} {a : Nat} {B : Option Addr} {b : Nat} {C : Option Addr} {d : Nat} {E : List Fig} {F L : List Int} (h : GameAt w lo hi A a B b C d E F L) : RdG w w.heap.size A B C E F L := h.gmR.rd
theorem Keeps.three {w w' : World} {lo hi g : Nat} {t : TypeId} {u0 u1 u2 : Value} (hk : Keeps lo hi w w') (h : Three w g t u0 u1 u2) (hg : g < lo ∨ hi ≤ g) : Three w' g t u0 u1 u2 := (hk.block g h.lt hg).trans h
theorem Keeps.bkk {w w' : World} {lo hi g : Nat} {t : TypeId} {cs : Array Value} (hk : Keeps lo hi w w') (h : Bkk w g t cs) (hs : g < w.heap.size) (hg : g < lo ∨ hi ≤ g) : Bkk w' g t cs := (hk.block g hs hg).trans h
end Go.Proofs.Ytameldhdegcpoaa
