/- The model's: a request done. -/
import Derived.Test.YthjiooocahdfpaaGt
namespace Go.Proofs.Ythjiooocahdfpaa
open Go.ChangeShapes Go.WideShapes Go.ChangeAt Go.RowKit
set_option linter.unusedVariables false
set_option linter.unusedSimpArgs false

/-- What comes back of a request done. -/
def DoR (x : Gm × Int) (w : World) (e : Ending) (w' : World) : Prop :=
  ∃ A' a' B' b' C' d', e = .returned (.tuple #[gameV A' x.1.1.length a' B' x.1.2.1.length b' C' x.1.2.2.length d', .int .i64 x.2]) ∧ GmR w' A' a' B' b' C' d' x.1.1 x.1.2.1 x.1.2.2 ∧ Below w.heap.size w w'

set_option maxRecDepth 100000 in
set_option maxHeartbeats 4000000 in
theorem doNull (A : Option Addr) (a : Nat) (B : Option Addr) (b : Nat) (C : Option Addr) (d : Nat) (E : List Fig) (F L : List Int) (rc rn ro rx ry : Int) (w : World) (hn : nullB ⟨rc, rn, ro, rx, ry⟩ = true) (hg : GmR w A a B b C d E F L) :
    Calls Try.prog 34 #[gameV A E.length a B F.length b C L.length d, .agg #[.int .i64 rc, .int .i64 rn, .int .i64 ro, .int .i64 rx, .int .i64 ry]] w (DoR ((E, F, L), 2) w) := by
  show Calls Try.prog 34 #[gameV A E.length a B F.length b C L.length d, .agg #[.int .i64 rc, .int .i64 rn, .int .i64 ro, .int .i64 rx, .int .i64 ry]] w fun e w' => ∃ A' a' B' b' C' d', e = .returned (.tuple #[gameV A' E.length a' B' F.length b' C' L.length d', .int .i64 2]) ∧ GmR w' A' a' B' b' C' d' E F L ∧ Below w.heap.size w w'
  have BW : Hid (Below w.heap.size w (((w.alloc (.cells #[.slice A E.length a, .slice B F.length b, .slice C L.length d] 31)).alloc (.cells #[.int .i64 rc, .int .i64 rn, .int .i64 ro, .int .i64 rx, .int .i64 ry] 35)).alloc (.cells #[.slice none 0 0, .slice none 0 0, .slice none 0 0] 31))) := ((below_alloc2 w _ _).alloc (by simp; omega) _)
  have HSW : Hid ((((w.alloc (.cells #[.slice A E.length a, .slice B F.length b, .slice C L.length d] 31)).alloc (.cells #[.int .i64 rc, .int .i64 rn, .int .i64 ro, .int .i64 rx, .int .i64 ry] 35)).alloc (.cells #[.slice none 0 0, .slice none 0 0, .slice none 0 0] 31)).heap.size = w.heap.size + 3) := by show _ = _; simp
  have K0 : Hid (Three (((w.alloc (.cells #[.slice A E.length a, .slice B F.length b, .slice C L.length d] 31)).alloc (.cells #[.int .i64 rc, .int .i64 rn, .int .i64 ro, .int .i64 rx, .int .i64 ry] 35)).alloc (.cells #[.slice none 0 0, .slice none 0 0, .slice none 0 0] 31)) w.heap.size 31 (.slice A E.length a) (.slice B F.length b) (.slice C L.length d)) := ((Three.new w).alloc _).alloc _
  have KR : Hid (Bkk (((w.alloc (.cells #[.slice A E.length a, .slice B F.length b, .slice C L.length d] 31)).alloc (.cells #[.int .i64 rc, .int .i64 rn, .int .i64 ro, .int .i64 rx, .int .i64 ry] 35)).alloc (.cells #[.slice none 0 0, .slice none 0 0, .slice none 0 0] 31)) (w.heap.size + 1) 35 #[.int .i64 rc, .int .i64 rn, .int .i64 ro, .int .i64 rx, .int .i64 ry]) := by have := (Bkk.new (t := 35) (cs := #[.int .i64 rc, .int .i64 rn, .int .i64 ro, .int .i64 rx, .int .i64 ry]) (w.alloc (.cells #[.slice A E.length a, .slice B F.length b, .slice C L.length d] 31))).alloc (.cells #[.slice none 0 0, .slice none 0 0, .slice none 0 0] 31); simpa [Hid] using this
  have K1 : Hid (Three (((w.alloc (.cells #[.slice A E.length a, .slice B F.length b, .slice C L.length d] 31)).alloc (.cells #[.int .i64 rc, .int .i64 rn, .int .i64 ro, .int .i64 rx, .int .i64 ry] 35)).alloc (.cells #[.slice none 0 0, .slice none 0 0, .slice none 0 0] 31)) (w.heap.size + 1 + 1) 31 (.slice none 0 0) (.slice none 0 0) (.slice none 0 0)) := by have := Three.new (t := 31) (u0 := .slice none 0 0) (u1 := .slice none 0 0) (u2 := .slice none 0 0) ((w.alloc (.cells #[.slice A E.length a, .slice B F.length b, .slice C L.length d] 31)).alloc (.cells #[.int .i64 rc, .int .i64 rn, .int .i64 ro, .int .i64 rx, .int .i64 ry] 35)); simpa [Hid] using this
  have HG0 := Lib.hid hg
  have HN := Lib.hid hn
  clear hg hn
  unfold gameV
  go_enter Try.func34, Try.ntmps34
  go_wp2_with (fail)
  refine (l1None ⟨rc, rn, ro, rx, ry⟩ _).mono ?_
  rintro e wa ⟨rfl, hb⟩
  rw [HN.out]
  have BF := Lib.hid (Below.and BW.out hb)
  have T0 := Lib.hid (K0.out.below hb (by rw [HSW.out]; omega))
  have T1 := Lib.hid (K1.out.below hb (by rw [HSW.out]; omega))
  have TR := Lib.hid (KR.out.below hb)
  have SZ := Lib.hid (show w.heap.size + 3 ≤ wa.heap.size by have := hb.size; rw [HSW.out] at this; omega)
  clear hb K0 K1 KR BW HSW
  obtain ⟨y0, y1, y2⟩ := T0.out.cells
  obtain ⟨z0, z1, z2⟩ := T1.out.cells
  have zf := T1.out.frozen
  have l1 := T0.out.lt
  have BG : ∀ p0 p1 p2 : Value, Below w.heap.size w (((wa.setCell ⟨w.heap.size + 1 + 1, 0, none⟩ p0).setCell ⟨w.heap.size + 1 + 1, 1, none⟩ p1).setCell ⟨w.heap.size + 1 + 1, 2, none⟩ p2) := fun p0 p1 p2 => by
    iterate 3 (refine Below.setCell ?_ (by first | (simp; done) | (simp; omega)) _)
    exact BF.out
  go_wp2
  refine bodyPost_ret (v := .tuple #[.agg #[.slice A E.length a, .slice B F.length b, .slice C L.length d], .int .i64 2]) (by simp [results, Try.results34, go_sem, y0, y1, y2, z0, z1, z2]) rfl ⟨A, a, B, b, C, d, rfl, HG0.out.below (BG _ _ _), BG _ _ _⟩

set_option maxRecDepth 100000 in
set_option maxHeartbeats 4000000 in
theorem doOld (A : Option Addr) (a : Nat) (B : Option Addr) (b : Nat) (C : Option Addr) (d : Nat) (E : List Fig) (F L : List Int) (rc rn ro rx ry : Int) (w : World) (hn : nullB ⟨rc, rn, ro, rx, ry⟩ = false) (j : Nat) (v : Int) (hj : rc - 1 = (j : Int)) (hjl : j < L.length) (hv : L[j]'hjl = v) (hc : 1 ≤ rc ∧ rc ≤ 4) (hle : rn ≤ v) (hg : GmR w A a B b C d E F L) :
    Calls Try.prog 34 #[gameV A E.length a B F.length b C L.length d, .agg #[.int .i64 rc, .int .i64 rn, .int .i64 ro, .int .i64 rx, .int .i64 ry]] w (DoR ((E, F, L), 3) w) := by
  show Calls Try.prog 34 #[gameV A E.length a B F.length b C L.length d, .agg #[.int .i64 rc, .int .i64 rn, .int .i64 ro, .int .i64 rx, .int .i64 ry]] w fun e w' => ∃ A' a' B' b' C' d', e = .returned (.tuple #[gameV A' E.length a' B' F.length b' C' L.length d', .int .i64 3]) ∧ GmR w' A' a' B' b' C' d' E F L ∧ Below w.heap.size w w'
  have BW : Hid (Below w.heap.size w (((w.alloc (.cells #[.slice A E.length a, .slice B F.length b, .slice C L.length d] 31)).alloc (.cells #[.int .i64 rc, .int .i64 rn, .int .i64 ro, .int .i64 rx, .int .i64 ry] 35)).alloc (.cells #[.slice none 0 0, .slice none 0 0, .slice none 0 0] 31))) := ((below_alloc2 w _ _).alloc (by simp; omega) _)
  have HSW : Hid ((((w.alloc (.cells #[.slice A E.length a, .slice B F.length b, .slice C L.length d] 31)).alloc (.cells #[.int .i64 rc, .int .i64 rn, .int .i64 ro, .int .i64 rx, .int .i64 ry] 35)).alloc (.cells #[.slice none 0 0, .slice none 0 0, .slice none 0 0] 31)).heap.size = w.heap.size + 3) := by show _ = _; simp
  have K0 : Hid (Three (((w.alloc (.cells #[.slice A E.length a, .slice B F.length b, .slice C L.length d] 31)).alloc (.cells #[.int .i64 rc, .int .i64 rn, .int .i64 ro, .int .i64 rx, .int .i64 ry] 35)).alloc (.cells #[.slice none 0 0, .slice none 0 0, .slice none 0 0] 31)) w.heap.size 31 (.slice A E.length a) (.slice B F.length b) (.slice C L.length d)) := ((Three.new w).alloc _).alloc _
  have KR : Hid (Bkk (((w.alloc (.cells #[.slice A E.length a, .slice B F.length b, .slice C L.length d] 31)).alloc (.cells #[.int .i64 rc, .int .i64 rn, .int .i64 ro, .int .i64 rx, .int .i64 ry] 35)).alloc (.cells #[.slice none 0 0, .slice none 0 0, .slice none 0 0] 31)) (w.heap.size + 1) 35 #[.int .i64 rc, .int .i64 rn, .int .i64 ro, .int .i64 rx, .int .i64 ry]) := by have := (Bkk.new (t := 35) (cs := #[.int .i64 rc, .int .i64 rn, .int .i64 ro, .int .i64 rx, .int .i64 ry]) (w.alloc (.cells #[.slice A E.length a, .slice B F.length b, .slice C L.length d] 31))).alloc (.cells #[.slice none 0 0, .slice none 0 0, .slice none 0 0] 31); simpa [Hid] using this
  have K1 : Hid (Three (((w.alloc (.cells #[.slice A E.length a, .slice B F.length b, .slice C L.length d] 31)).alloc (.cells #[.int .i64 rc, .int .i64 rn, .int .i64 ro, .int .i64 rx, .int .i64 ry] 35)).alloc (.cells #[.slice none 0 0, .slice none 0 0, .slice none 0 0] 31)) (w.heap.size + 1 + 1) 31 (.slice none 0 0) (.slice none 0 0) (.slice none 0 0)) := by have := Three.new (t := 31) (u0 := .slice none 0 0) (u1 := .slice none 0 0) (u2 := .slice none 0 0) ((w.alloc (.cells #[.slice A E.length a, .slice B F.length b, .slice C L.length d] 31)).alloc (.cells #[.int .i64 rc, .int .i64 rn, .int .i64 ro, .int .i64 rx, .int .i64 ry] 35)); simpa [Hid] using this
  have HG0 := Lib.hid hg
  have HN := Lib.hid hn
  have q1 : IntKind.i64.wrap (rc - 1) = (j : Int) := by rw [hj]; exact IntWalk.i64_in _ (by omega)
  have i2 : (0 : Int) ≤ (j : Int) := by omega
  have i3 : (j : Int) < (L.length : Int) := by omega
  have HV := Lib.hid hv
  clear hj hv
  have e3 : decide (rn ≤ v) = true := by simpa using hle
  clear hg hn
  unfold gameV
  go_enter Try.func34, Try.ntmps34
  go_wp2_with (fail)
  refine (l1None ⟨rc, rn, ro, rx, ry⟩ _).mono ?_
  rintro e wa ⟨rfl, hb⟩
  rw [HN.out]
  have BF := Lib.hid (Below.and BW.out hb)
  have T0 := Lib.hid (K0.out.below hb (by rw [HSW.out]; omega))
  have T1 := Lib.hid (K1.out.below hb (by rw [HSW.out]; omega))
  have TR := Lib.hid (KR.out.below hb)
  have SZ := Lib.hid (show w.heap.size + 3 ≤ wa.heap.size by have := hb.size; rw [HSW.out] at this; omega)
  clear hb K0 K1 KR BW HSW
  obtain ⟨qb, hqb, xb⟩ := (HG0.out.below BF.out).rL j hjl
  subst hqb
  rw [HV.out] at xb
  obtain ⟨y0, y1, y2⟩ := T0.out.cells
  have xr0 : wa.cell? ⟨w.heap.size + 1, 0, none⟩ = some (.int .i64 rc) := TR.out.cell 0
  have xr1 : wa.cell? ⟨w.heap.size + 1, 1, none⟩ = some (.int .i64 rn) := TR.out.cell 1
  have l1 : w.heap.size < wa.heap.size := by have := SZ.out; omega
  have l2 : w.heap.size + 1 < wa.heap.size := by have := SZ.out; omega
  have l3 : qb < wa.heap.size := by have := HG0.out.lC qb rfl; have := SZ.out; omega
  go_wp2_with (fail)
  refine wp_region_held_drew (S := fun w1 => Below wa.heap.size wa w1) (by kernel_rfl) ((Below.refl _ _).drew) (fun hq => ?_)
  refine takeD 0 10 (v := ?_) rfl rfl (by kernel_rfl) (by kernel_rfl) (by kernel_rfl) (fun _ _ _ h => h) (Or.inl ⟨by rfl, ?_⟩) (by assumption) ?_
  rotate_left
  · intro w1 hSw; obtain ⟨hcS, hfS⟩ := bcell hSw; go_simp; (try with_reducible rfl)
  (try simp only [Act.put, List.setIfInBounds_toArray, List.set_cons_zero, List.set_cons_succ])
  refine takeD 1 11 (v := ?_) rfl rfl (by kernel_rfl) (by kernel_rfl) (by kernel_rfl) (fun _ _ _ h => h) (Or.inl ⟨by rfl, ?_⟩) (by assumption) ?_
  rotate_left
  · intro w1 hSw; obtain ⟨hcS, hfS⟩ := bcell hSw; go_simp; (try with_reducible rfl)
  (try simp only [Act.put, List.setIfInBounds_toArray, List.set_cons_zero, List.set_cons_succ])
  refine takeD 2 12 (v := ?_) rfl rfl (by kernel_rfl) (by kernel_rfl) (by kernel_rfl) (fun _ _ _ h => h) (Or.inl ⟨by rfl, ?_⟩) (by assumption) ?_
  rotate_left
  · intro w1 hSw; obtain ⟨hcS, hfS⟩ := bcell hSw; go_simp; (try with_reducible rfl)
  (try simp only [Act.put, List.setIfInBounds_toArray, List.set_cons_zero, List.set_cons_succ])
  refine takeD 3 13 (v := ?_) rfl rfl (by kernel_rfl) (by kernel_rfl) (by kernel_rfl) (fun _ _ _ h => h) (Or.inl ⟨by rfl, ?_⟩) (by assumption) ?_
  rotate_left
  · intro w1 hSw; obtain ⟨hcS, hfS⟩ := bcell hSw; go_simp; (try with_reducible rfl)
  (try simp only [Act.put, List.setIfInBounds_toArray, List.set_cons_zero, List.set_cons_succ])
  refine takeD 4 14 (v := ?_) rfl rfl (by kernel_rfl) (by kernel_rfl) (by kernel_rfl) (fun _ _ _ h => h) (Or.inl ⟨by rfl, ?_⟩) (by assumption) ?_
  rotate_left
  · intro w1 hSw; obtain ⟨hcS, hfS⟩ := bcell hSw; go_simp; (try with_reducible rfl)
  (try simp only [Act.put, List.setIfInBounds_toArray, List.set_cons_zero, List.set_cons_succ])
  refine takeD 5 15 (v := ?_) rfl rfl (by kernel_rfl) (by kernel_rfl) (by kernel_rfl) (fun _ _ _ h => h) (Or.inl ⟨by rfl, ?_⟩) (by assumption) ?_
  rotate_left
  · intro w1 hSw; obtain ⟨hcS, hfS⟩ := bcell hSw; go_simp; (try with_reducible rfl)
  (try simp only [Act.put, List.setIfInBounds_toArray, List.set_cons_zero, List.set_cons_succ])
  refine takeD 6 16 (v := ?_) rfl rfl (by kernel_rfl) (by kernel_rfl) (by kernel_rfl) (fun _ _ _ h => h) (Or.inl ⟨by rfl, ?_⟩) (by assumption) ?_
  rotate_left
  · intro w1 hSw; obtain ⟨hcS, hfS⟩ := bcell hSw; go_simp; (try with_reducible rfl)
  (try simp only [Act.put, List.setIfInBounds_toArray, List.set_cons_zero, List.set_cons_succ])
  refine takeD 7 17 (v := ?_) rfl rfl (by kernel_rfl) (by kernel_rfl) (by kernel_rfl) (fun _ _ _ h => h) (Or.inl ⟨by rfl, ?_⟩) (by assumption) ?_
  rotate_left
  · intro w1 hSw; obtain ⟨hcS, hfS⟩ := bcell hSw; go_simp; (try with_reducible rfl)
  (try simp only [Act.put, List.setIfInBounds_toArray, List.set_cons_zero, List.set_cons_succ])
  refine takeD 8 18 (v := ?_) rfl rfl (by kernel_rfl) (by kernel_rfl) (by kernel_rfl) (fun _ _ _ h => h) (Or.inl ⟨by rfl, ?_⟩) (by assumption) ?_
  rotate_left
  · intro w1 hSw; obtain ⟨hcS, hfS⟩ := bcell hSw; go_simp; (try with_reducible rfl)
  (try simp only [Act.put, List.setIfInBounds_toArray, List.set_cons_zero, List.set_cons_succ])
  refine takeD 9 19 (v := ?_) rfl rfl (by kernel_rfl) (by kernel_rfl) (by kernel_rfl) (fun _ _ _ h => h) (Or.inl ⟨by rfl, ?_⟩) (by assumption) ?_
  rotate_left
  · intro w1 hSw; obtain ⟨hcS, hfS⟩ := bcell hSw; go_simp; (try with_reducible rfl)
  (try simp only [Act.put, List.setIfInBounds_toArray, List.set_cons_zero, List.set_cons_succ])
  refine wpAnyH_done (by kernel_rfl) ?_ _
  have BF := Lib.hid (Below.and BF.out hq)
  clear y0 y1 y2 xr0 xr1 l1 l2 l3 xb
  obtain ⟨y0, y1, y2⟩ := T0.out.cells
  obtain ⟨z0, z1, z2⟩ := T1.out.cells
  have zf := T1.out.frozen
  have l1 := T0.out.lt
  have BG : ∀ p0 p1 p2 : Value, Below w.heap.size w (((wa.drew.setCell ⟨w.heap.size + 1 + 1, 0, none⟩ p0).setCell ⟨w.heap.size + 1 + 1, 1, none⟩ p1).setCell ⟨w.heap.size + 1 + 1, 2, none⟩ p2) := fun p0 p1 p2 => by
    iterate 3 (refine Below.setCell ?_ (by first | (simp; done) | (simp; omega)) _)
    exact BF.out
  go_wp2
  refine bodyPost_ret (v := .tuple #[.agg #[.slice A E.length a, .slice B F.length b, .slice (some ⟨qb, 0, none⟩) L.length d], .int .i64 3]) (by simp [results, Try.results34, go_sem, y0, y1, y2, z0, z1, z2]) rfl ⟨A, a, B, b, some ⟨qb, 0, none⟩, d, rfl, HG0.out.below (BG _ _ _), BG _ _ _⟩

end Go.Proofs.Ythjiooocahdfpaa
