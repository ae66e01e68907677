/- The model's way: how one rises and sinks in a row of its own. -/
import Derived.Test.YtgnemgnhjallhaaVj
namespace Go.Proofs.Ytgnemgnhjallhaa
open Go.ChangeShapes Go.WideShapes Go.ChangeAt Go.RowKit
set_option linter.unusedVariables false
set_option linter.unusedSimpArgs false

theorem ownC {w : World} {lo g a : Nat} {L : List Tm} (h : OwT w lo (some ⟨g, 0, none⟩) a L) (i : Nat) (hi : i < L.length) (x : Tm) (hx : at' L i = x) :
    w.cell? ⟨g, i * 3, none⟩ = some (.int .i64 x.a) ∧ w.cell? ⟨g, i * 3 + 1, none⟩ = some (.int .i64 x.f) ∧ w.cell? ⟨g, i * 3 + 2, none⟩ = some (.int .i64 x.n) := by
  subst hx
  obtain ⟨g', o', hA, _, C⟩ := rdT_at h.rd (by omega)
  injection hA with hA
  injection hA with h1 h2 h3
  subst h1 h2
  have := C i hi
  simpa using this
theorem own_g {w : World} {lo : Nat} {A : Option Addr} {a : Nat} {L : List Tm} (h : OwT w lo A a L) (h0 : 0 < L.length) : ∃ g, A = some ⟨g, 0, none⟩ ∧ lo ≤ g ∧ g < w.heap.size := own_some (show w.ownsRow _ _ _ _ _ _ from h) h0
theorem OwT.frz {w : World} {lo g a : Nat} {L : List Tm} (h : OwT w lo (some ⟨g, 0, none⟩) a L) : ∀ o, w.frozen? ⟨g, o, none⟩ = false := fun o => (show w.ownsRow _ _ _ _ _ _ from h).frozenAt o
theorem sets6h (w : World) (g o o2 o3 o4 o5 o6 : Nat) (u u2 u3 u4 u5 u6 : Value) :
    w.grownBy ((((((w.setCell ⟨g, o, none⟩ u).setCell ⟨g, o2, none⟩ u2).setCell ⟨g, o3, none⟩ u3).setCell ⟨g, o4, none⟩ u4).setCell ⟨g, o5, none⟩ u5).setCell ⟨g, o6, none⟩ u6) (some g) :=
  grownBy_trans (grownBy_trans (grownBy_trans (grownBy_trans (grownBy_trans (grownBy_set w g o u) (grownBy_set _ g o2 u2)) (grownBy_set _ g o3 u3)) (grownBy_set _ g o4 u4)) (grownBy_set _ g o5 u5)) (grownBy_set _ g o6 u6)
theorem swp_rows {w : World} {lo g a : Nat} {L : List Tm} (h : OwT w lo (some ⟨g, 0, none⟩) a L) (i j : Nat) (hi : i < L.length) (hj : j < L.length) (x y : Tm) (hx : at' L i = x) (hy : at' L j = y) :
    OwT ((((((w.setCell ⟨g, i * 3, none⟩ (.int .i64 y.a)).setCell ⟨g, i * 3 + 1, none⟩ (.int .i64 y.f)).setCell ⟨g, i * 3 + 2, none⟩ (.int .i64 y.n)).setCell ⟨g, j * 3, none⟩ (.int .i64 x.a)).setCell ⟨g, j * 3 + 1, none⟩ (.int .i64 x.f)).setCell ⟨g, j * 3 + 2, none⟩ (.int .i64 x.n)) lo (some ⟨g, 0, none⟩) a (swp L i j) := by
  subst hx hy
  exact (h.set i (at' L j) hi).set j (at' L i) (by simpa using hj)

set_option maxRecDepth 100000 in
set_option maxHeartbeats 4000000 in
theorem l13Rise (lo : Nat) (A : Option Addr) (a : Nat) (L : List Tm) (n : Nat) (w : World) (hL : L.length ≤ 1048576) (hn : L.length = n + 1) (hlo : lo ≤ w.heap.size) (h : OwT w lo A a L) :
    Calls Try.prog 45 #[.slice A L.length a] w fun e w' => e = .returned (.slice A L.length a) ∧ OwT w' lo A a (riseT L n) ∧ Below lo w w' := by
  obtain ⟨g, rfl, hg, lg⟩ := own_g h (by omega)
  have HGL := Lib.hid hg
  have HLO := Lib.hid hlo
  have OW0 := Lib.hid h
  have HN0 := Lib.hid hn
  have hnL : n ≤ 1048576 := by omega
  obtain ⟨R, hR⟩ : ∃ R, riseT L n = R := ⟨_, rfl⟩
  have HR0 := Lib.hid hR
  rw [hR, hn]
  have w9 : IntKind.i64.wrap (n : Int) = (n : Int) := wrap_nat n (by omega)
  clear h hn hR hg lg hlo hL
  go_enter Try.func45, Try.ntmps45
  go_wp2
  clear w9
  go_loopw [3] (fun v wr => ∃ (i : Nat) (L' : List Tm), i ≤ n ∧ v = .int .i64 (i : Int) ∧ Hid (L'.length = n + 1) ∧ Hid (OwT wr lo (some ⟨g, 0, none⟩) a L') ∧ Hid (riseT L' i = R) ∧ Hid (Below lo w wr)) (fun v _ => (intOf v).toNat)
  case atStart => exact ⟨n, L, Nat.le_refl _, rfl, HN0.out, OW0.out, HR0.out, Below.refl _ _⟩
  case round =>
    clear HN0 OW0 HR0
    obtain ⟨i, L', hi, rfl, HN, OW, HR, Z⟩ := hrel
    rcases i with _ | m
    · have HE := Lib.hid (show L' = R by rw [← HR.out, rise_end L' 0 (fun h => by omega)])
      have d1 : decide ((0 : Int) < ((0 : Nat) : Int)) = false := rfl
      go_wp2_with (fail)
      go_quiet (fail)
      go_wp2
      go_light
      go_ret
      exact ⟨rfl, HE.out ▸ (OW.out.below (Below.drewN (Below.refl _ _) _)), Z.out.trans ((Below.drewN (Below.refl _ _) _).mono (Nat.le_trans HLO.out Z.out.size))⟩
    · obtain ⟨c, hc⟩ : ∃ c, c = m / 2 := ⟨_, rfl⟩
      have hcm : c ≤ m := by omega
      have hh1 : (m : Int).tdiv 2 = (c : Int) := by rw [hc]; exact half_nat m
      have hh2 : IntKind.i64.wrap (m : Int) = (m : Int) := wrap_nat m (by omega)
      have hh3 : IntKind.i64.wrap (c : Int) = (c : Int) := wrap_nat c (by omega)
      have HC := Lib.hid (show (m + 1 - 1) / 2 = c by omega)
      clear hc
      obtain ⟨x, hx⟩ : ∃ x, at' L' (m + 1) = x := ⟨_, rfl⟩
      obtain ⟨y, hy⟩ : ∃ y, at' L' c = y := ⟨_, rfl⟩
      have Hx := Lib.hid hx
      have Hy := Lib.hid hy
      clear hx hy
      obtain ⟨b, hb⟩ : ∃ b, lessT x y = b := ⟨_, rfl⟩
      have HXY := Lib.hid hb
      clear hb
      have OWg := Lib.hid (show g < wr.heap.size from (own_block_ge (show World.ownsRow _ _ _ _ _ _ _ from OW.out) g rfl).2)
      obtain ⟨x0, x1, x2⟩ := ownC OW.out (m + 1) (by have := HN.out; omega) x Hx.out
      obtain ⟨y0, y1, y2⟩ := ownC OW.out c (by have := HN.out; omega) y Hy.out
      have lg := OWg.out
      have m2 : (m : Int) + 1 < (n : Int) + 1 := by omega
      have m0 : (0 : Int) < (m : Int) + 1 := by omega
      have m1 : (0 : Int) ≤ (m : Int) + 1 := by omega
      have c0 : (0 : Int) ≤ (c : Int) := by omega
      have c1 : (c : Int) < (n : Int) + 1 := by omega
      go_wp2_with (fail)
      rcases b with _ | _
      · skip
        refine wp_region_held_drew (S := fun w1 => Below wr.heap.size wr w1) (by kernel_rfl) ((Below.refl _ _).drew) (fun hq => ?_)
        refine takeD 0 8 (v := ?_) rfl rfl (by kernel_rfl) (by kernel_rfl) (by kernel_rfl) (fun _ _ _ h => h) (Or.inl ⟨by rfl, ?_⟩) (by assumption) ?_
        rotate_left
        · intro w1 hSw; obtain ⟨hcS, hfS⟩ := bcell hSw; go_simp; (try with_reducible rfl)
        (try simp only [Act.put, List.setIfInBounds_toArray, List.set_cons_zero, List.set_cons_succ])
        refine takeD 1 9 (v := ?_) rfl rfl (by kernel_rfl) (by kernel_rfl) (by kernel_rfl) (fun _ _ _ h => h) (Or.inl ⟨by rfl, ?_⟩) (by assumption) ?_
        rotate_left
        · intro w1 hSw; obtain ⟨hcS, hfS⟩ := bcell hSw; go_simp; (try with_reducible rfl)
        (try simp only [Act.put, List.setIfInBounds_toArray, List.set_cons_zero, List.set_cons_succ])
        refine takeD 2 10 (v := ?_) rfl rfl (by kernel_rfl) (by kernel_rfl) (by kernel_rfl) (fun _ _ _ h => h) (Or.inl ⟨by rfl, ?_⟩) (by assumption) ?_
        rotate_left
        · intro w1 hSw; obtain ⟨hcS, hfS⟩ := bcell hSw; go_simp; (try with_reducible rfl)
        (try simp only [Act.put, List.setIfInBounds_toArray, List.set_cons_zero, List.set_cons_succ])
        refine takeD 3 11 (v := ?_) rfl rfl (by kernel_rfl) (by kernel_rfl) (by kernel_rfl) (fun _ _ _ h => h) (Or.inl ⟨by rfl, ?_⟩) (by assumption) ?_
        rotate_left
        · intro w1 hSw; obtain ⟨hcS, hfS⟩ := bcell hSw; go_simp; (try with_reducible rfl)
        (try simp only [Act.put, List.setIfInBounds_toArray, List.set_cons_zero, List.set_cons_succ])
        refine takeD 4 12 (v := ?_) rfl rfl (by kernel_rfl) (by kernel_rfl) (by kernel_rfl) (fun _ _ _ h => h) (Or.inl ⟨by rfl, ?_⟩) (by assumption) ?_
        rotate_left
        · intro w1 hSw; obtain ⟨hcS, hfS⟩ := bcell hSw; go_simp; (try with_reducible rfl)
        (try simp only [Act.put, List.setIfInBounds_toArray, List.set_cons_zero, List.set_cons_succ])
        refine takeD 5 13 (v := ?_) rfl rfl (by kernel_rfl) (by kernel_rfl) (by kernel_rfl) (fun _ _ _ h => h) (Or.inl ⟨by rfl, ?_⟩) (by assumption) ?_
        rotate_left
        · intro w1 hSw; obtain ⟨hcS, hfS⟩ := bcell hSw; go_simp; (try with_reducible rfl)
        (try simp only [Act.put, List.setIfInBounds_toArray, List.set_cons_zero, List.set_cons_succ])
        refine takeD 6 14 (v := ?_) rfl rfl (by kernel_rfl) (by kernel_rfl) (by kernel_rfl) (fun _ _ _ h => h) (Or.inl ⟨by rfl, ?_⟩) (by assumption) ?_
        rotate_left
        · intro w1 hSw; obtain ⟨hcS, hfS⟩ := bcell hSw; go_simp; (try with_reducible rfl)
        (try simp only [Act.put, List.setIfInBounds_toArray, List.set_cons_zero, List.set_cons_succ])
        refine takeD 7 15 (v := ?_) rfl rfl (by kernel_rfl) (by kernel_rfl) (by kernel_rfl) (fun _ _ _ h => h) (Or.inl ⟨by rfl, ?_⟩) (by assumption) ?_
        rotate_left
        · intro w1 hSw; obtain ⟨hcS, hfS⟩ := bcell hSw; go_simp; (try with_reducible rfl)
        (try simp only [Act.put, List.setIfInBounds_toArray, List.set_cons_zero, List.set_cons_succ])
        refine takeD 8 16 (v := ?_) rfl rfl (by kernel_rfl) (by kernel_rfl) (by kernel_rfl) (fun _ _ _ h => h) (Or.inl ⟨by rfl, ?_⟩) (by assumption) ?_
        rotate_left
        · intro w1 hSw; obtain ⟨hcS, hfS⟩ := bcell hSw; go_simp; (try with_reducible rfl)
        (try simp only [Act.put, List.setIfInBounds_toArray, List.set_cons_zero, List.set_cons_succ])
        refine takeD 9 17 (v := ?_) rfl rfl (by kernel_rfl) (by kernel_rfl) (by kernel_rfl) (fun _ _ _ h => h) (Or.inl ⟨by rfl, ?_⟩) (by assumption) ?_
        rotate_left
        · intro w1 hSw; obtain ⟨hcS, hfS⟩ := bcell hSw; go_simp; (try with_reducible rfl)
        (try simp only [Act.put, List.setIfInBounds_toArray, List.set_cons_zero, List.set_cons_succ])
        refine takeD 10 18 (v := ?_) rfl rfl (by kernel_rfl) (by kernel_rfl) (by kernel_rfl) (fun _ _ _ h => h) (Or.inl ⟨by rfl, ?_⟩) (by assumption) ?_
        rotate_left
        · intro w1 hSw; obtain ⟨hcS, hfS⟩ := bcell hSw; go_simp; (try with_reducible rfl)
        (try simp only [Act.put, List.setIfInBounds_toArray, List.set_cons_zero, List.set_cons_succ])
        refine takeD 11 19 (v := ?_) rfl rfl (by kernel_rfl) (by kernel_rfl) (by kernel_rfl) (fun _ _ _ h => h) (Or.inl ⟨by rfl, ?_⟩) (by assumption) ?_
        rotate_left
        · intro w1 hSw; obtain ⟨hcS, hfS⟩ := bcell hSw; go_simp; (try with_reducible rfl)
        (try simp only [Act.put, List.setIfInBounds_toArray, List.set_cons_zero, List.set_cons_succ])
        refine takeD 12 20 (v := ?_) rfl rfl (by kernel_rfl) (by kernel_rfl) (by kernel_rfl) (fun _ _ _ h => h) (Or.inl ⟨by rfl, ?_⟩) (by assumption) ?_
        rotate_left
        · intro w1 hSw; obtain ⟨hcS, hfS⟩ := bcell hSw; go_simp; (try with_reducible rfl)
        (try simp only [Act.put, List.setIfInBounds_toArray, List.set_cons_zero, List.set_cons_succ])
        refine wpAnyH_ready (rs := [13]) (by kernel_rfl) (by simp) ?_
        refine AllReadyH.cons rfl (fun K hK => ?_) AllReadyH.nil
        go_simp
        refine (l13Less x y _).mono ?_
        rintro e w3 ⟨rfl, hb⟩
        rw [HXY.out]
        refine hK.out _ _ (Below.and hq hb) (fun hq2 => ?_)
        clear hK K
        (try simp only [Act.put, List.setIfInBounds_toArray, List.set_cons_zero, List.set_cons_succ])
        refine takeD 14 22 (v := ?_) rfl rfl (by kernel_rfl) (by kernel_rfl) (by kernel_rfl) (fun _ _ _ h => h) (Or.inl ⟨by rfl, ?_⟩) (by assumption) ?_
        rotate_left
        · intro w1 hSw; obtain ⟨hcS, hfS⟩ := bcell hSw; go_simp; (try with_reducible rfl)
        (try simp only [Act.put, List.setIfInBounds_toArray, List.set_cons_zero, List.set_cons_succ])
        refine wpAnyH_done (by kernel_rfl) ?_ _
        have hb9 := hq2
        have HE := Lib.hid (show L' = R by rw [← HR.out, rise_end L' (m + 1) (fun h => by rw [HC.out, Hx.out, Hy.out]; exact HXY.out)])
        have OW9 := Lib.hid (OW.out.below hb9)
        have Z9 := Lib.hid (Z.out.trans (hb9.mono (Nat.le_trans HLO.out Z.out.size)))
        go_wp2
        go_light
        go_ret
        exact ⟨rfl, HE.out ▸ OW9.out, Z9.out⟩
      · skip
        refine wp_region_held_drew (S := fun w1 => Below wr.heap.size wr w1) (by kernel_rfl) ((Below.refl _ _).drew) (fun hq => ?_)
        refine takeD 0 8 (v := ?_) rfl rfl (by kernel_rfl) (by kernel_rfl) (by kernel_rfl) (fun _ _ _ h => h) (Or.inl ⟨by rfl, ?_⟩) (by assumption) ?_
        rotate_left
        · intro w1 hSw; obtain ⟨hcS, hfS⟩ := bcell hSw; go_simp; (try with_reducible rfl)
        (try simp only [Act.put, List.setIfInBounds_toArray, List.set_cons_zero, List.set_cons_succ])
        refine takeD 1 9 (v := ?_) rfl rfl (by kernel_rfl) (by kernel_rfl) (by kernel_rfl) (fun _ _ _ h => h) (Or.inl ⟨by rfl, ?_⟩) (by assumption) ?_
        rotate_left
        · intro w1 hSw; obtain ⟨hcS, hfS⟩ := bcell hSw; go_simp; (try with_reducible rfl)
        (try simp only [Act.put, List.setIfInBounds_toArray, List.set_cons_zero, List.set_cons_succ])
        refine takeD 2 10 (v := ?_) rfl rfl (by kernel_rfl) (by kernel_rfl) (by kernel_rfl) (fun _ _ _ h => h) (Or.inl ⟨by rfl, ?_⟩) (by assumption) ?_
        rotate_left
        · intro w1 hSw; obtain ⟨hcS, hfS⟩ := bcell hSw; go_simp; (try with_reducible rfl)
        (try simp only [Act.put, List.setIfInBounds_toArray, List.set_cons_zero, List.set_cons_succ])
        refine takeD 3 11 (v := ?_) rfl rfl (by kernel_rfl) (by kernel_rfl) (by kernel_rfl) (fun _ _ _ h => h) (Or.inl ⟨by rfl, ?_⟩) (by assumption) ?_
        rotate_left
        · intro w1 hSw; obtain ⟨hcS, hfS⟩ := bcell hSw; go_simp; (try with_reducible rfl)
        (try simp only [Act.put, List.setIfInBounds_toArray, List.set_cons_zero, List.set_cons_succ])
        refine takeD 4 12 (v := ?_) rfl rfl (by kernel_rfl) (by kernel_rfl) (by kernel_rfl) (fun _ _ _ h => h) (Or.inl ⟨by rfl, ?_⟩) (by assumption) ?_
        rotate_left
        · intro w1 hSw; obtain ⟨hcS, hfS⟩ := bcell hSw; go_simp; (try with_reducible rfl)
        (try simp only [Act.put, List.setIfInBounds_toArray, List.set_cons_zero, List.set_cons_succ])
        refine takeD 5 13 (v := ?_) rfl rfl (by kernel_rfl) (by kernel_rfl) (by kernel_rfl) (fun _ _ _ h => h) (Or.inl ⟨by rfl, ?_⟩) (by assumption) ?_
        rotate_left
        · intro w1 hSw; obtain ⟨hcS, hfS⟩ := bcell hSw; go_simp; (try with_reducible rfl)
        (try simp only [Act.put, List.setIfInBounds_toArray, List.set_cons_zero, List.set_cons_succ])
        refine takeD 6 14 (v := ?_) rfl rfl (by kernel_rfl) (by kernel_rfl) (by kernel_rfl) (fun _ _ _ h => h) (Or.inl ⟨by rfl, ?_⟩) (by assumption) ?_
        rotate_left
        · intro w1 hSw; obtain ⟨hcS, hfS⟩ := bcell hSw; go_simp; (try with_reducible rfl)
        (try simp only [Act.put, List.setIfInBounds_toArray, List.set_cons_zero, List.set_cons_succ])
        refine takeD 7 15 (v := ?_) rfl rfl (by kernel_rfl) (by kernel_rfl) (by kernel_rfl) (fun _ _ _ h => h) (Or.inl ⟨by rfl, ?_⟩) (by assumption) ?_
        rotate_left
        · intro w1 hSw; obtain ⟨hcS, hfS⟩ := bcell hSw; go_simp; (try with_reducible rfl)
        (try simp only [Act.put, List.setIfInBounds_toArray, List.set_cons_zero, List.set_cons_succ])
        refine takeD 8 16 (v := ?_) rfl rfl (by kernel_rfl) (by kernel_rfl) (by kernel_rfl) (fun _ _ _ h => h) (Or.inl ⟨by rfl, ?_⟩) (by assumption) ?_
        rotate_left
        · intro w1 hSw; obtain ⟨hcS, hfS⟩ := bcell hSw; go_simp; (try with_reducible rfl)
        (try simp only [Act.put, List.setIfInBounds_toArray, List.set_cons_zero, List.set_cons_succ])
        refine takeD 9 17 (v := ?_) rfl rfl (by kernel_rfl) (by kernel_rfl) (by kernel_rfl) (fun _ _ _ h => h) (Or.inl ⟨by rfl, ?_⟩) (by assumption) ?_
        rotate_left
        · intro w1 hSw; obtain ⟨hcS, hfS⟩ := bcell hSw; go_simp; (try with_reducible rfl)
        (try simp only [Act.put, List.setIfInBounds_toArray, List.set_cons_zero, List.set_cons_succ])
        refine takeD 10 18 (v := ?_) rfl rfl (by kernel_rfl) (by kernel_rfl) (by kernel_rfl) (fun _ _ _ h => h) (Or.inl ⟨by rfl, ?_⟩) (by assumption) ?_
        rotate_left
        · intro w1 hSw; obtain ⟨hcS, hfS⟩ := bcell hSw; go_simp; (try with_reducible rfl)
        (try simp only [Act.put, List.setIfInBounds_toArray, List.set_cons_zero, List.set_cons_succ])
        refine takeD 11 19 (v := ?_) rfl rfl (by kernel_rfl) (by kernel_rfl) (by kernel_rfl) (fun _ _ _ h => h) (Or.inl ⟨by rfl, ?_⟩) (by assumption) ?_
        rotate_left
        · intro w1 hSw; obtain ⟨hcS, hfS⟩ := bcell hSw; go_simp; (try with_reducible rfl)
        (try simp only [Act.put, List.setIfInBounds_toArray, List.set_cons_zero, List.set_cons_succ])
        refine takeD 12 20 (v := ?_) rfl rfl (by kernel_rfl) (by kernel_rfl) (by kernel_rfl) (fun _ _ _ h => h) (Or.inl ⟨by rfl, ?_⟩) (by assumption) ?_
        rotate_left
        · intro w1 hSw; obtain ⟨hcS, hfS⟩ := bcell hSw; go_simp; (try with_reducible rfl)
        (try simp only [Act.put, List.setIfInBounds_toArray, List.set_cons_zero, List.set_cons_succ])
        refine wpAnyH_ready (rs := [13]) (by kernel_rfl) (by simp) ?_
        refine AllReadyH.cons rfl (fun K hK => ?_) AllReadyH.nil
        go_simp
        refine (l13Less x y _).mono ?_
        rintro e w3 ⟨rfl, hb⟩
        rw [HXY.out]
        refine hK.out _ _ (Below.and hq hb) (fun hq2 => ?_)
        clear hK K
        (try simp only [Act.put, List.setIfInBounds_toArray, List.set_cons_zero, List.set_cons_succ])
        refine takeD 14 22 (v := ?_) rfl rfl (by kernel_rfl) (by kernel_rfl) (by kernel_rfl) (fun _ _ _ h => h) (Or.inl ⟨by rfl, ?_⟩) (by assumption) ?_
        rotate_left
        · intro w1 hSw; obtain ⟨hcS, hfS⟩ := bcell hSw; go_simp; (try with_reducible rfl)
        (try simp only [Act.put, List.setIfInBounds_toArray, List.set_cons_zero, List.set_cons_succ])
        refine wpAnyH_done (by kernel_rfl) ?_ _
        have hb9 := hq2
        replace OW := Lib.hid (OW.out.below hb9)
        replace Z := Lib.hid (Z.out.trans (hb9.mono (Nat.le_trans HLO.out Z.out.size)))
        have OWg := Lib.hid (show g < w3.heap.size from (own_block_ge (show World.ownsRow _ _ _ _ _ _ _ from OW.out) g rfl).2)
        clear hb9 x0 x1 x2 y0 y1 y2 lg
        obtain ⟨x0, x1, x2⟩ := ownC OW.out (m + 1) (by have := HN.out; omega) x Hx.out
        obtain ⟨y0, y1, y2⟩ := ownC OW.out c (by have := HN.out; omega) y Hy.out
        have lg := OWg.out
        go_upto_region 3 with (fail)
        have hba : Below w3.heap.size w3 (w3.alloc (.cells (tmCs x) 25)) := (Below.refl _ _).alloc (Nat.le_refl _) _
        have KX : Hid (Bkk (w3.alloc (.cells (tmCs x) 25)) w3.heap.size 25 (tmCs x)) := Bkk.new _
        have HGX := Lib.hid (show g ≠ w3.heap.size by have := OWg.out; omega)
        replace OW := Lib.hid (OW.out.below hba)
        replace Z := Lib.hid (Z.out.trans (hba.mono (Nat.le_trans HLO.out Z.out.size)))
        clear hba
        go_upto_region 4 with (fail)
        obtain ⟨xb, hxb⟩ : ∃ X, X = w3.heap.size := ⟨_, rfl⟩
        obtain ⟨wa, hwa⟩ : ∃ X, X = w3.alloc (.cells (tmCs x) 25) := ⟨_, rfl⟩
        rw [← hwa] at OW KX Z ⊢
        rw [← hxb] at KX HGX ⊢
        clear hwa hxb x0 x1 x2 y0 y1 y2
        obtain ⟨x0, x1, x2⟩ := ownC OW.out (m + 1) (by have := HN.out; omega) x Hx.out
        obtain ⟨y0, y1, y2⟩ := ownC OW.out c (by have := HN.out; omega) y Hy.out
        have fz := OW.out.frz
        go_upto_region 5 with (fail)
        have SW := Lib.hid (swp_rows OW.out (m + 1) c (by have := HN.out; omega) (by have := HN.out; omega) x y Hx.out Hy.out)
        have Z6 := Lib.hid (sets6 Z.out HGL.out ((m + 1) * 3) ((m + 1) * 3 + 1) ((m + 1) * 3 + 2) (c * 3) (c * 3 + 1) (c * 3 + 2) (.int .i64 y.a) (.int .i64 y.f) (.int .i64 y.n) (.int .i64 x.a) (.int .i64 x.f) (.int .i64 x.n))
        have OW1 := Lib.hid (OW.out.set (m + 1) y (by have := HN.out; omega))
        have KX1 := Lib.hid (((KX.out.far (Ne.symm HGX.out) ((m + 1) * 3) (.int .i64 y.a)).far (Ne.symm HGX.out) ((m + 1) * 3 + 1) (.int .i64 y.f)).far (Ne.symm HGX.out) ((m + 1) * 3 + 2) (.int .i64 y.n))
        obtain ⟨wb, hwb⟩ : ∃ X, X = (((wa.setCell ⟨g, (m + 1) * 3, none⟩ (.int .i64 y.a)).setCell ⟨g, (m + 1) * 3 + 1, none⟩ (.int .i64 y.f)).setCell ⟨g, (m + 1) * 3 + 2, none⟩ (.int .i64 y.n)) := ⟨_, rfl⟩
        rw [← hwb] at SW Z6 OW1 KX1 ⊢
        clear hwb x0 x1 x2 y0 y1 y2 fz KX OW Z lg
        obtain ⟨x0, x1, x2⟩ := (show wb.cell? ⟨xb, 0, none⟩ = some (.int .i64 x.a) ∧ wb.cell? ⟨xb, 1, none⟩ = some (.int .i64 x.f) ∧ wb.cell? ⟨xb, 2, none⟩ = some (.int .i64 x.n) from ⟨KX1.out.cell 0, KX1.out.cell 1, KX1.out.cell 2⟩)
        obtain ⟨z, hz⟩ : ∃ z, at' (L'.set (m + 1) y) c = z := ⟨_, rfl⟩
        obtain ⟨y0, y1, y2⟩ := ownC OW1.out c (by have := HN.out; simp; omega) z hz
        have fz := OW1.out.frz
        clear hz
        go_upto_region 6 with (fail)
        obtain ⟨wS, hwS⟩ : ∃ X, X = (((wb.setCell ⟨g, c * 3, none⟩ (.int .i64 x.a)).setCell ⟨g, c * 3 + 1, none⟩ (.int .i64 x.f)).setCell ⟨g, c * 3 + 2, none⟩ (.int .i64 x.n)) := ⟨_, rfl⟩
        rw [← hwS] at SW Z6 ⊢
        clear hwS x0 x1 x2 y0 y1 y2 fz OW1 KX1 OWg HGX
        have HE := Lib.hid (show riseT (swp L' (m + 1) c) c = R by
          rw [← HR.out, rise_go L' (m + 1) (by omega) (by rw [HC.out, Hx.out, Hy.out]; exact HXY.out), HC.out])
        have HN2 := Lib.hid (show (swp L' (m + 1) c).length = n + 1 by rw [swp_len]; exact HN.out)
        clear HXY HC HR HN Hx Hy
        generalize swp L' (m + 1) c = L3 at HE HN2 SW
        go_wp2
        go_roundw
        case rel => exact ⟨c, L3, by omega, by go_num, HN2.out, SW.out, HE.out, Z6.out⟩
        case measure => (simp [intOf]; try omega)

set_option maxRecDepth 100000 in
set_option maxHeartbeats 4000000 in
theorem l13Sink (lo : Nat) (A : Option Addr) (a : Nat) (L : List Tm) (n : Nat) (w : World) (hL : n ≤ 1048576) (hn : L.length = n) (hlo : lo ≤ w.heap.size) (h : OwT w lo A a L) :
    Calls Try.prog 49 #[.slice A L.length a] w fun e w' => e = .returned (.slice A L.length a) ∧ OwT w' lo A a (sinkT L 0) ∧ Below lo w w' ∧ w.grownBy w' (Value.slice A L.length a).ownBlock := by
  have HLO := Lib.hid hlo
  have OW0 := Lib.hid h
  have HN0 := Lib.hid hn
  obtain ⟨R, hR⟩ : ∃ R, sinkT L 0 = R := ⟨_, rfl⟩
  have HR0 := Lib.hid hR
  rw [hR, hn]
  clear h hn hR hlo
  go_enter Try.func49, Try.ntmps49
  go_wp2
  go_loopw [3] (fun v wr => ∃ (i : Nat) (L' : List Tm), i ≤ n ∧ v = .int .i64 (i : Int) ∧ Hid (L'.length = n) ∧ Hid (OwT wr lo A a L') ∧ Hid (sinkT L' i = R) ∧ Hid (Below lo w wr) ∧ Hid (w.grownBy wr (Value.slice A n a).ownBlock)) (fun v _ => n - (intOf v).toNat)
  case atStart => exact ⟨0, L, Nat.zero_le _, rfl, HN0.out, OW0.out, HR0.out, Below.refl _ _, World.grownBy.refl _ _⟩
  case round =>
    clear HN0 OW0 HR0
    obtain ⟨i, L', hi, rfl, HN, OW, HR, Z, F⟩ := hrel
    by_cases h1 : 2 * i + 1 < n
    · obtain ⟨g, rfl, hg, lg⟩ := own_g OW.out (by rw [HN.out]; omega)
      have HGL := Lib.hid hg
      clear hg
      obtain ⟨k, hk⟩ : ∃ k, k = 2 * i + 1 := ⟨_, rfl⟩
      have HK := Lib.hid hk
      have h1k : k < n := by omega
      have d1 : 2 * (i : Int) + 1 < (n : Int) := by omega
      have EK := Lib.hid (show 2 * (i : Int) + 1 = (k : Int) by omega)
      have HIK := Lib.hid (show i < k by omega)
      clear hk
      go_upto_region 4 with (fail)
      rw [EK.out]
      clear d1 h1
      obtain ⟨b, hb⟩ : ∃ b, (decide (k + 1 < n) && lessT (at' L' (k + 1)) (at' L' k)) = b := ⟨_, rfl⟩
      have HB := Lib.hid hb
      clear hb
      go_cut [31] from 15 to 60 (fun s31 wc => s31 = .bool b ∧ Hid (Below wr.heap.size wr wc))
      case first =>
        by_cases h2 : k + 1 < n
        · obtain ⟨u, hu⟩ : ∃ u, at' L' (k + 1) = u := ⟨_, rfl⟩
          obtain ⟨v, hv⟩ : ∃ v, at' L' k = v := ⟨_, rfl⟩
          have Hu := Lib.hid hu
          have Hv := Lib.hid hv
          have HUV := Lib.hid (show lessT u v = b by rw [← HB.out, hu, hv]; simp [h2])
          clear hu hv
          obtain ⟨x0, x1, x2⟩ := ownC OW.out (k + 1) (by rw [HN.out]; exact h2) u Hu.out
          obtain ⟨y0, y1, y2⟩ := ownC OW.out k (by rw [HN.out]; exact h1k) v Hv.out
          have k0 : (0 : Int) ≤ (k : Int) := by omega
          have k1 : (k : Int) < (n : Int) := by omega
          have k2 : (k : Int) + 1 < (n : Int) := by omega
          have k3 : (0 : Int) ≤ (k : Int) + 1 := by omega
          have hwk : IntKind.i64.wrap ((k : Int) + 1) = (k : Int) + 1 := IntWalk.i64_in _ (by omega)
          rcases b with _ | _
          · skip
            refine wp_region_held_drew (S := fun w1 => Below wr.heap.size wr w1) (by kernel_rfl) ((Below.refl _ _).drew) (fun hq => ?_)
            refine takeD 0 15 (v := ?_) rfl rfl (by kernel_rfl) (by kernel_rfl) (by kernel_rfl) (fun _ _ _ h => h) (Or.inl ⟨by rfl, ?_⟩) (by assumption) ?_
            rotate_left
            · intro w1 hSw; obtain ⟨hcS, hfS⟩ := bcell hSw; go_simp; (try with_reducible rfl)
            (try simp only [Act.put, List.setIfInBounds_toArray, List.set_cons_zero, List.set_cons_succ])
            refine takeD 1 16 (v := ?_) rfl rfl (by kernel_rfl) (by kernel_rfl) (by kernel_rfl) (fun _ _ _ h => h) (Or.inl ⟨by rfl, ?_⟩) (by assumption) ?_
            rotate_left
            · intro w1 hSw; obtain ⟨hcS, hfS⟩ := bcell hSw; go_simp; (try with_reducible rfl)
            (try simp only [Act.put, List.setIfInBounds_toArray, List.set_cons_zero, List.set_cons_succ])
            refine takeD 2 17 (v := ?_) rfl rfl (by kernel_rfl) (by kernel_rfl) (by kernel_rfl) (fun _ _ _ h => h) (Or.inl ⟨by rfl, ?_⟩) (by assumption) ?_
            rotate_left
            · intro w1 hSw; obtain ⟨hcS, hfS⟩ := bcell hSw; go_simp; (try with_reducible rfl)
            (try simp only [Act.put, List.setIfInBounds_toArray, List.set_cons_zero, List.set_cons_succ])
            refine takeD 3 18 (v := ?_) rfl rfl (by kernel_rfl) (by kernel_rfl) (by kernel_rfl) (fun _ _ _ h => h) (Or.inl ⟨by rfl, ?_⟩) (by assumption) ?_
            rotate_left
            · intro w1 hSw; obtain ⟨hcS, hfS⟩ := bcell hSw; go_simp; (try with_reducible rfl)
            (try simp only [Act.put, List.setIfInBounds_toArray, List.set_cons_zero, List.set_cons_succ])
            refine takeD 4 19 (v := ?_) rfl rfl (by kernel_rfl) (by kernel_rfl) (by kernel_rfl) (fun _ _ _ h => h) (Or.inl ⟨by rfl, ?_⟩) (by assumption) ?_
            rotate_left
            · intro w1 hSw; obtain ⟨hcS, hfS⟩ := bcell hSw; go_simp; (try with_reducible rfl)
            (try simp only [Act.put, List.setIfInBounds_toArray, List.set_cons_zero, List.set_cons_succ])
            refine takeD 5 20 (v := ?_) rfl rfl (by kernel_rfl) (by kernel_rfl) (by kernel_rfl) (fun _ _ _ h => h) (Or.inl ⟨by rfl, ?_⟩) (by assumption) ?_
            rotate_left
            · intro w1 hSw; obtain ⟨hcS, hfS⟩ := bcell hSw; go_simp; (try with_reducible rfl)
            (try simp only [Act.put, List.setIfInBounds_toArray, List.set_cons_zero, List.set_cons_succ])
            refine takeD 6 21 (v := ?_) rfl rfl (by kernel_rfl) (by kernel_rfl) (by kernel_rfl) (fun _ _ _ h => h) (Or.inl ⟨by rfl, ?_⟩) (by assumption) ?_
            rotate_left
            · intro w1 hSw; obtain ⟨hcS, hfS⟩ := bcell hSw; go_simp; (try with_reducible rfl)
            (try simp only [Act.put, List.setIfInBounds_toArray, List.set_cons_zero, List.set_cons_succ])
            refine takeD 7 22 (v := ?_) rfl rfl (by kernel_rfl) (by kernel_rfl) (by kernel_rfl) (fun _ _ _ h => h) (Or.inl ⟨by rfl, ?_⟩) (by assumption) ?_
            rotate_left
            · intro w1 hSw; obtain ⟨hcS, hfS⟩ := bcell hSw; go_simp; (try with_reducible rfl)
            (try simp only [Act.put, List.setIfInBounds_toArray, List.set_cons_zero, List.set_cons_succ])
            refine takeD 8 23 (v := ?_) rfl rfl (by kernel_rfl) (by kernel_rfl) (by kernel_rfl) (fun _ _ _ h => h) (Or.inl ⟨by rfl, ?_⟩) (by assumption) ?_
            rotate_left
            · intro w1 hSw; obtain ⟨hcS, hfS⟩ := bcell hSw; go_simp; (try with_reducible rfl)
            (try simp only [Act.put, List.setIfInBounds_toArray, List.set_cons_zero, List.set_cons_succ])
            refine takeD 9 24 (v := ?_) rfl rfl (by kernel_rfl) (by kernel_rfl) (by kernel_rfl) (fun _ _ _ h => h) (Or.inl ⟨by rfl, ?_⟩) (by assumption) ?_
            rotate_left
            · intro w1 hSw; obtain ⟨hcS, hfS⟩ := bcell hSw; go_simp; (try with_reducible rfl)
            (try simp only [Act.put, List.setIfInBounds_toArray, List.set_cons_zero, List.set_cons_succ])
            refine takeD 10 25 (v := ?_) rfl rfl (by kernel_rfl) (by kernel_rfl) (by kernel_rfl) (fun _ _ _ h => h) (Or.inl ⟨by rfl, ?_⟩) (by assumption) ?_
            rotate_left
            · intro w1 hSw; obtain ⟨hcS, hfS⟩ := bcell hSw; go_simp; (try with_reducible rfl)
            (try simp only [Act.put, List.setIfInBounds_toArray, List.set_cons_zero, List.set_cons_succ])
            refine takeD 11 26 (v := ?_) rfl rfl (by kernel_rfl) (by kernel_rfl) (by kernel_rfl) (fun _ _ _ h => h) (Or.inl ⟨by rfl, ?_⟩) (by assumption) ?_
            rotate_left
            · intro w1 hSw; obtain ⟨hcS, hfS⟩ := bcell hSw; go_simp; (try with_reducible rfl)
            (try simp only [Act.put, List.setIfInBounds_toArray, List.set_cons_zero, List.set_cons_succ])
            refine takeD 12 27 (v := ?_) rfl rfl (by kernel_rfl) (by kernel_rfl) (by kernel_rfl) (fun _ _ _ h => h) (Or.inl ⟨by rfl, ?_⟩) (by assumption) ?_
            rotate_left
            · intro w1 hSw; obtain ⟨hcS, hfS⟩ := bcell hSw; go_simp; (try with_reducible rfl)
            (try simp only [Act.put, List.setIfInBounds_toArray, List.set_cons_zero, List.set_cons_succ])
            refine takeD 13 28 (v := ?_) rfl rfl (by kernel_rfl) (by kernel_rfl) (by kernel_rfl) (fun _ _ _ h => h) (Or.inl ⟨by rfl, ?_⟩) (by assumption) ?_
            rotate_left
            · intro w1 hSw; obtain ⟨hcS, hfS⟩ := bcell hSw; go_simp; (try with_reducible rfl)
            (try simp only [Act.put, List.setIfInBounds_toArray, List.set_cons_zero, List.set_cons_succ])
            refine takeD 14 29 (v := ?_) rfl rfl (by kernel_rfl) (by kernel_rfl) (by kernel_rfl) (fun _ _ _ h => h) (Or.inl ⟨by rfl, ?_⟩) (by assumption) ?_
            rotate_left
            · intro w1 hSw; obtain ⟨hcS, hfS⟩ := bcell hSw; go_simp; (try with_reducible rfl)
            (try simp only [Act.put, List.setIfInBounds_toArray, List.set_cons_zero, List.set_cons_succ])
            refine wpAnyH_ready (rs := [15]) (by kernel_rfl) (by simp) ?_
            refine AllReadyH.cons rfl (fun K hK => ?_) AllReadyH.nil
            go_simp
            refine (l13Less u v _).mono ?_
            rintro e w5 ⟨rfl, hb⟩
            rw [HUV.out]
            refine hK.out _ _ (Below.and hq hb) (fun hq2 => ?_)
            clear hK K
            (try simp only [Act.put, List.setIfInBounds_toArray, List.set_cons_zero, List.set_cons_succ])
            refine takeD 16 31 (v := ?_) rfl rfl (by kernel_rfl) (by kernel_rfl) (by kernel_rfl) (fun _ _ _ h => h) (Or.inl ⟨by rfl, ?_⟩) (by assumption) ?_
            rotate_left
            · intro w1 hSw; obtain ⟨hcS, hfS⟩ := bcell hSw; go_simp; (try with_reducible rfl)
            (try simp only [Act.put, List.setIfInBounds_toArray, List.set_cons_zero, List.set_cons_succ])
            refine wpAnyH_done (by kernel_rfl) ?_ _
            go_wp2_with (fail)
            go_meet
            case rel => exact ⟨rfl, hq2⟩
          · skip
            refine wp_region_held_drew (S := fun w1 => Below wr.heap.size wr w1) (by kernel_rfl) ((Below.refl _ _).drew) (fun hq => ?_)
            refine takeD 0 15 (v := ?_) rfl rfl (by kernel_rfl) (by kernel_rfl) (by kernel_rfl) (fun _ _ _ h => h) (Or.inl ⟨by rfl, ?_⟩) (by assumption) ?_
            rotate_left
            · intro w1 hSw; obtain ⟨hcS, hfS⟩ := bcell hSw; go_simp; (try with_reducible rfl)
            (try simp only [Act.put, List.setIfInBounds_toArray, List.set_cons_zero, List.set_cons_succ])
            refine takeD 1 16 (v := ?_) rfl rfl (by kernel_rfl) (by kernel_rfl) (by kernel_rfl) (fun _ _ _ h => h) (Or.inl ⟨by rfl, ?_⟩) (by assumption) ?_
            rotate_left
            · intro w1 hSw; obtain ⟨hcS, hfS⟩ := bcell hSw; go_simp; (try with_reducible rfl)
            (try simp only [Act.put, List.setIfInBounds_toArray, List.set_cons_zero, List.set_cons_succ])
            refine takeD 2 17 (v := ?_) rfl rfl (by kernel_rfl) (by kernel_rfl) (by kernel_rfl) (fun _ _ _ h => h) (Or.inl ⟨by rfl, ?_⟩) (by assumption) ?_
            rotate_left
            · intro w1 hSw; obtain ⟨hcS, hfS⟩ := bcell hSw; go_simp; (try with_reducible rfl)
            (try simp only [Act.put, List.setIfInBounds_toArray, List.set_cons_zero, List.set_cons_succ])
            refine takeD 3 18 (v := ?_) rfl rfl (by kernel_rfl) (by kernel_rfl) (by kernel_rfl) (fun _ _ _ h => h) (Or.inl ⟨by rfl, ?_⟩) (by assumption) ?_
            rotate_left
            · intro w1 hSw; obtain ⟨hcS, hfS⟩ := bcell hSw; go_simp; (try with_reducible rfl)
            (try simp only [Act.put, List.setIfInBounds_toArray, List.set_cons_zero, List.set_cons_succ])
            refine takeD 4 19 (v := ?_) rfl rfl (by kernel_rfl) (by kernel_rfl) (by kernel_rfl) (fun _ _ _ h => h) (Or.inl ⟨by rfl, ?_⟩) (by assumption) ?_
            rotate_left
            · intro w1 hSw; obtain ⟨hcS, hfS⟩ := bcell hSw; go_simp; (try with_reducible rfl)
            (try simp only [Act.put, List.setIfInBounds_toArray, List.set_cons_zero, List.set_cons_succ])
            refine takeD 5 20 (v := ?_) rfl rfl (by kernel_rfl) (by kernel_rfl) (by kernel_rfl) (fun _ _ _ h => h) (Or.inl ⟨by rfl, ?_⟩) (by assumption) ?_
            rotate_left
            · intro w1 hSw; obtain ⟨hcS, hfS⟩ := bcell hSw; go_simp; (try with_reducible rfl)
            (try simp only [Act.put, List.setIfInBounds_toArray, List.set_cons_zero, List.set_cons_succ])
            refine takeD 6 21 (v := ?_) rfl rfl (by kernel_rfl) (by kernel_rfl) (by kernel_rfl) (fun _ _ _ h => h) (Or.inl ⟨by rfl, ?_⟩) (by assumption) ?_
            rotate_left
            · intro w1 hSw; obtain ⟨hcS, hfS⟩ := bcell hSw; go_simp; (try with_reducible rfl)
            (try simp only [Act.put, List.setIfInBounds_toArray, List.set_cons_zero, List.set_cons_succ])
            refine takeD 7 22 (v := ?_) rfl rfl (by kernel_rfl) (by kernel_rfl) (by kernel_rfl) (fun _ _ _ h => h) (Or.inl ⟨by rfl, ?_⟩) (by assumption) ?_
            rotate_left
            · intro w1 hSw; obtain ⟨hcS, hfS⟩ := bcell hSw; go_simp; (try with_reducible rfl)
            (try simp only [Act.put, List.setIfInBounds_toArray, List.set_cons_zero, List.set_cons_succ])
            refine takeD 8 23 (v := ?_) rfl rfl (by kernel_rfl) (by kernel_rfl) (by kernel_rfl) (fun _ _ _ h => h) (Or.inl ⟨by rfl, ?_⟩) (by assumption) ?_
            rotate_left
            · intro w1 hSw; obtain ⟨hcS, hfS⟩ := bcell hSw; go_simp; (try with_reducible rfl)
            (try simp only [Act.put, List.setIfInBounds_toArray, List.set_cons_zero, List.set_cons_succ])
            refine takeD 9 24 (v := ?_) rfl rfl (by kernel_rfl) (by kernel_rfl) (by kernel_rfl) (fun _ _ _ h => h) (Or.inl ⟨by rfl, ?_⟩) (by assumption) ?_
            rotate_left
            · intro w1 hSw; obtain ⟨hcS, hfS⟩ := bcell hSw; go_simp; (try with_reducible rfl)
            (try simp only [Act.put, List.setIfInBounds_toArray, List.set_cons_zero, List.set_cons_succ])
            refine takeD 10 25 (v := ?_) rfl rfl (by kernel_rfl) (by kernel_rfl) (by kernel_rfl) (fun _ _ _ h => h) (Or.inl ⟨by rfl, ?_⟩) (by assumption) ?_
            rotate_left
            · intro w1 hSw; obtain ⟨hcS, hfS⟩ := bcell hSw; go_simp; (try with_reducible rfl)
            (try simp only [Act.put, List.setIfInBounds_toArray, List.set_cons_zero, List.set_cons_succ])
            refine takeD 11 26 (v := ?_) rfl rfl (by kernel_rfl) (by kernel_rfl) (by kernel_rfl) (fun _ _ _ h => h) (Or.inl ⟨by rfl, ?_⟩) (by assumption) ?_
            rotate_left
            · intro w1 hSw; obtain ⟨hcS, hfS⟩ := bcell hSw; go_simp; (try with_reducible rfl)
            (try simp only [Act.put, List.setIfInBounds_toArray, List.set_cons_zero, List.set_cons_succ])
            refine takeD 12 27 (v := ?_) rfl rfl (by kernel_rfl) (by kernel_rfl) (by kernel_rfl) (fun _ _ _ h => h) (Or.inl ⟨by rfl, ?_⟩) (by assumption) ?_
            rotate_left
            · intro w1 hSw; obtain ⟨hcS, hfS⟩ := bcell hSw; go_simp; (try with_reducible rfl)
            (try simp only [Act.put, List.setIfInBounds_toArray, List.set_cons_zero, List.set_cons_succ])
            refine takeD 13 28 (v := ?_) rfl rfl (by kernel_rfl) (by kernel_rfl) (by kernel_rfl) (fun _ _ _ h => h) (Or.inl ⟨by rfl, ?_⟩) (by assumption) ?_
            rotate_left
            · intro w1 hSw; obtain ⟨hcS, hfS⟩ := bcell hSw; go_simp; (try with_reducible rfl)
            (try simp only [Act.put, List.setIfInBounds_toArray, List.set_cons_zero, List.set_cons_succ])
            refine takeD 14 29 (v := ?_) rfl rfl (by kernel_rfl) (by kernel_rfl) (by kernel_rfl) (fun _ _ _ h => h) (Or.inl ⟨by rfl, ?_⟩) (by assumption) ?_
            rotate_left
            · intro w1 hSw; obtain ⟨hcS, hfS⟩ := bcell hSw; go_simp; (try with_reducible rfl)
            (try simp only [Act.put, List.setIfInBounds_toArray, List.set_cons_zero, List.set_cons_succ])
            refine wpAnyH_ready (rs := [15]) (by kernel_rfl) (by simp) ?_
            refine AllReadyH.cons rfl (fun K hK => ?_) AllReadyH.nil
            go_simp
            refine (l13Less u v _).mono ?_
            rintro e w5 ⟨rfl, hb⟩
            rw [HUV.out]
            refine hK.out _ _ (Below.and hq hb) (fun hq2 => ?_)
            clear hK K
            (try simp only [Act.put, List.setIfInBounds_toArray, List.set_cons_zero, List.set_cons_succ])
            refine takeD 16 31 (v := ?_) rfl rfl (by kernel_rfl) (by kernel_rfl) (by kernel_rfl) (fun _ _ _ h => h) (Or.inl ⟨by rfl, ?_⟩) (by assumption) ?_
            rotate_left
            · intro w1 hSw; obtain ⟨hcS, hfS⟩ := bcell hSw; go_simp; (try with_reducible rfl)
            (try simp only [Act.put, List.setIfInBounds_toArray, List.set_cons_zero, List.set_cons_succ])
            refine wpAnyH_done (by kernel_rfl) ?_ _
            go_wp2_with (fail)
            go_meet
            case rel => exact ⟨rfl, hq2⟩
        · have d2 : decide ((k : Int) + 1 < (n : Int)) = false := decide_eq_false (by omega)
          have HE := Lib.hid (show b = false by rw [← HB.out]; simp [h2])
          go_quiet (fail)
          go_wp2_with (fail)
          go_meet
          case rel => exact ⟨by rw [HE.out], Below.drewN (Below.refl _ _) _⟩
      case rest =>
        obtain ⟨rfl, hb⟩ := hcut
        replace OW := Lib.hid (OW.out.below hb.out)
        replace Z := Lib.hid (Z.out.trans (hb.out.mono (Nat.le_trans HLO.out Z.out.size)))
        replace F := Lib.hid (grownBy_trans F.out (Below.grownBy hb.out _))
        clear hb lg
        rcases b with _ | _
        · obtain ⟨c, hc⟩ : ∃ c, c = k := ⟨_, rfl⟩
          have HCC := Lib.hid (show childT L' i = c by
            have h9 := HB.out
            have h8 := HK.out
            subst hc
            subst h8
            unfold childT
            rw [HN.out, if_neg]
            intro hh
            rw [show 2 * i + 1 + 1 = 2 * i + 2 by omega, hh.2] at h9
            simp [hh.1] at h9)
          have HCN := Lib.hid (show c < n by omega)
          have HIC := Lib.hid (show i < c by have := HIK.out; omega)
          rw [show (k : Int) = (c : Int) by omega]
          clear hc HB HK EK HIK h1k
          obtain ⟨x, hx⟩ : ∃ x, at' L' i = x := ⟨_, rfl⟩
          obtain ⟨y, hy⟩ : ∃ y, at' L' c = y := ⟨_, rfl⟩
          have Hx := Lib.hid hx
          have Hy := Lib.hid hy
          clear hx hy
          obtain ⟨b, hb⟩ : ∃ b, lessT y x = b := ⟨_, rfl⟩
          have HXY := Lib.hid hb
          clear hb
          have OWg := Lib.hid (show g < wc.heap.size from (own_block_ge (show World.ownsRow _ _ _ _ _ _ _ from OW.out) g rfl).2)
          have hic := HIC.out
          have hcn := HCN.out
          obtain ⟨x0, x1, x2⟩ := ownC OW.out i (by have := HN.out; omega) x Hx.out
          obtain ⟨y0, y1, y2⟩ := ownC OW.out c (by have := HN.out; omega) y Hy.out
          have lg := OWg.out
          have i0 : (0 : Int) ≤ (i : Int) := by omega
          have i1 : (i : Int) < (n : Int) := by omega
          have c0 : (0 : Int) ≤ (c : Int) := by omega
          have c1 : (c : Int) < (n : Int) := by omega
          go_upto_region 6 with (fail)
          rcases b with _ | _
          · skip
            refine wp_region_held_drew (S := fun w1 => Below wc.heap.size wc w1) (by kernel_rfl) ((Below.refl _ _).drew) (fun hq => ?_)
            refine takeD 0 34 (v := ?_) rfl rfl (by kernel_rfl) (by kernel_rfl) (by kernel_rfl) (fun _ _ _ h => h) (Or.inl ⟨by rfl, ?_⟩) (by assumption) ?_
            rotate_left
            · intro w1 hSw; obtain ⟨hcS, hfS⟩ := bcell hSw; go_simp; (try with_reducible rfl)
            (try simp only [Act.put, List.setIfInBounds_toArray, List.set_cons_zero, List.set_cons_succ])
            refine takeD 1 35 (v := ?_) rfl rfl (by kernel_rfl) (by kernel_rfl) (by kernel_rfl) (fun _ _ _ h => h) (Or.inl ⟨by rfl, ?_⟩) (by assumption) ?_
            rotate_left
            · intro w1 hSw; obtain ⟨hcS, hfS⟩ := bcell hSw; go_simp; (try with_reducible rfl)
            (try simp only [Act.put, List.setIfInBounds_toArray, List.set_cons_zero, List.set_cons_succ])
            refine takeD 2 36 (v := ?_) rfl rfl (by kernel_rfl) (by kernel_rfl) (by kernel_rfl) (fun _ _ _ h => h) (Or.inl ⟨by rfl, ?_⟩) (by assumption) ?_
            rotate_left
            · intro w1 hSw; obtain ⟨hcS, hfS⟩ := bcell hSw; go_simp; (try with_reducible rfl)
            (try simp only [Act.put, List.setIfInBounds_toArray, List.set_cons_zero, List.set_cons_succ])
            refine takeD 3 37 (v := ?_) rfl rfl (by kernel_rfl) (by kernel_rfl) (by kernel_rfl) (fun _ _ _ h => h) (Or.inl ⟨by rfl, ?_⟩) (by assumption) ?_
            rotate_left
            · intro w1 hSw; obtain ⟨hcS, hfS⟩ := bcell hSw; go_simp; (try with_reducible rfl)
            (try simp only [Act.put, List.setIfInBounds_toArray, List.set_cons_zero, List.set_cons_succ])
            refine takeD 4 38 (v := ?_) rfl rfl (by kernel_rfl) (by kernel_rfl) (by kernel_rfl) (fun _ _ _ h => h) (Or.inl ⟨by rfl, ?_⟩) (by assumption) ?_
            rotate_left
            · intro w1 hSw; obtain ⟨hcS, hfS⟩ := bcell hSw; go_simp; (try with_reducible rfl)
            (try simp only [Act.put, List.setIfInBounds_toArray, List.set_cons_zero, List.set_cons_succ])
            refine takeD 5 39 (v := ?_) rfl rfl (by kernel_rfl) (by kernel_rfl) (by kernel_rfl) (fun _ _ _ h => h) (Or.inl ⟨by rfl, ?_⟩) (by assumption) ?_
            rotate_left
            · intro w1 hSw; obtain ⟨hcS, hfS⟩ := bcell hSw; go_simp; (try with_reducible rfl)
            (try simp only [Act.put, List.setIfInBounds_toArray, List.set_cons_zero, List.set_cons_succ])
            refine takeD 6 40 (v := ?_) rfl rfl (by kernel_rfl) (by kernel_rfl) (by kernel_rfl) (fun _ _ _ h => h) (Or.inl ⟨by rfl, ?_⟩) (by assumption) ?_
            rotate_left
            · intro w1 hSw; obtain ⟨hcS, hfS⟩ := bcell hSw; go_simp; (try with_reducible rfl)
            (try simp only [Act.put, List.setIfInBounds_toArray, List.set_cons_zero, List.set_cons_succ])
            refine takeD 7 41 (v := ?_) rfl rfl (by kernel_rfl) (by kernel_rfl) (by kernel_rfl) (fun _ _ _ h => h) (Or.inl ⟨by rfl, ?_⟩) (by assumption) ?_
            rotate_left
            · intro w1 hSw; obtain ⟨hcS, hfS⟩ := bcell hSw; go_simp; (try with_reducible rfl)
            (try simp only [Act.put, List.setIfInBounds_toArray, List.set_cons_zero, List.set_cons_succ])
            refine wpAnyH_ready (rs := [8]) (by kernel_rfl) (by simp) ?_
            refine AllReadyH.cons rfl (fun K hK => ?_) AllReadyH.nil
            go_simp
            refine (l13Less y x _).mono ?_
            rintro e w7 ⟨rfl, hb⟩
            rw [HXY.out]
            refine hK.out _ _ (Below.and hq hb) (fun hq2 => ?_)
            clear hK K
            (try simp only [Act.put, List.setIfInBounds_toArray, List.set_cons_zero, List.set_cons_succ])
            refine takeD 9 43 (v := ?_) rfl rfl (by kernel_rfl) (by kernel_rfl) (by kernel_rfl) (fun _ _ _ h => h) (Or.inl ⟨by rfl, ?_⟩) (by assumption) ?_
            rotate_left
            · intro w1 hSw; obtain ⟨hcS, hfS⟩ := bcell hSw; go_simp; (try with_reducible rfl)
            (try simp only [Act.put, List.setIfInBounds_toArray, List.set_cons_zero, List.set_cons_succ])
            refine wpAnyH_done (by kernel_rfl) ?_ _
            have hb9 := hq2
            have HE := Lib.hid (show L' = R by rw [← HR.out, sink_end L' i (fun h => by rw [HCC.out, Hx.out, Hy.out]; exact HXY.out)])
            have OW9 := Lib.hid (OW.out.below hb9)
            have F9 := Lib.hid (grownBy_trans F.out (Below.grownBy hb9 _))
            have Z9 := Lib.hid (Z.out.trans (hb9.mono (Nat.le_trans HLO.out Z.out.size)))
            go_wp2
            go_light
            go_ret
            exact ⟨rfl, HE.out ▸ OW9.out, Z9.out, F9.out⟩
          · skip
            refine wp_region_held_drew (S := fun w1 => Below wc.heap.size wc w1) (by kernel_rfl) ((Below.refl _ _).drew) (fun hq => ?_)
            refine takeD 0 34 (v := ?_) rfl rfl (by kernel_rfl) (by kernel_rfl) (by kernel_rfl) (fun _ _ _ h => h) (Or.inl ⟨by rfl, ?_⟩) (by assumption) ?_
            rotate_left
            · intro w1 hSw; obtain ⟨hcS, hfS⟩ := bcell hSw; go_simp; (try with_reducible rfl)
            (try simp only [Act.put, List.setIfInBounds_toArray, List.set_cons_zero, List.set_cons_succ])
            refine takeD 1 35 (v := ?_) rfl rfl (by kernel_rfl) (by kernel_rfl) (by kernel_rfl) (fun _ _ _ h => h) (Or.inl ⟨by rfl, ?_⟩) (by assumption) ?_
            rotate_left
            · intro w1 hSw; obtain ⟨hcS, hfS⟩ := bcell hSw; go_simp; (try with_reducible rfl)
            (try simp only [Act.put, List.setIfInBounds_toArray, List.set_cons_zero, List.set_cons_succ])
            refine takeD 2 36 (v := ?_) rfl rfl (by kernel_rfl) (by kernel_rfl) (by kernel_rfl) (fun _ _ _ h => h) (Or.inl ⟨by rfl, ?_⟩) (by assumption) ?_
            rotate_left
            · intro w1 hSw; obtain ⟨hcS, hfS⟩ := bcell hSw; go_simp; (try with_reducible rfl)
            (try simp only [Act.put, List.setIfInBounds_toArray, List.set_cons_zero, List.set_cons_succ])
            refine takeD 3 37 (v := ?_) rfl rfl (by kernel_rfl) (by kernel_rfl) (by kernel_rfl) (fun _ _ _ h => h) (Or.inl ⟨by rfl, ?_⟩) (by assumption) ?_
            rotate_left
            · intro w1 hSw; obtain ⟨hcS, hfS⟩ := bcell hSw; go_simp; (try with_reducible rfl)
            (try simp only [Act.put, List.setIfInBounds_toArray, List.set_cons_zero, List.set_cons_succ])
            refine takeD 4 38 (v := ?_) rfl rfl (by kernel_rfl) (by kernel_rfl) (by kernel_rfl) (fun _ _ _ h => h) (Or.inl ⟨by rfl, ?_⟩) (by assumption) ?_
            rotate_left
            · intro w1 hSw; obtain ⟨hcS, hfS⟩ := bcell hSw; go_simp; (try with_reducible rfl)
            (try simp only [Act.put, List.setIfInBounds_toArray, List.set_cons_zero, List.set_cons_succ])
            refine takeD 5 39 (v := ?_) rfl rfl (by kernel_rfl) (by kernel_rfl) (by kernel_rfl) (fun _ _ _ h => h) (Or.inl ⟨by rfl, ?_⟩) (by assumption) ?_
            rotate_left
            · intro w1 hSw; obtain ⟨hcS, hfS⟩ := bcell hSw; go_simp; (try with_reducible rfl)
            (try simp only [Act.put, List.setIfInBounds_toArray, List.set_cons_zero, List.set_cons_succ])
            refine takeD 6 40 (v := ?_) rfl rfl (by kernel_rfl) (by kernel_rfl) (by kernel_rfl) (fun _ _ _ h => h) (Or.inl ⟨by rfl, ?_⟩) (by assumption) ?_
            rotate_left
            · intro w1 hSw; obtain ⟨hcS, hfS⟩ := bcell hSw; go_simp; (try with_reducible rfl)
            (try simp only [Act.put, List.setIfInBounds_toArray, List.set_cons_zero, List.set_cons_succ])
            refine takeD 7 41 (v := ?_) rfl rfl (by kernel_rfl) (by kernel_rfl) (by kernel_rfl) (fun _ _ _ h => h) (Or.inl ⟨by rfl, ?_⟩) (by assumption) ?_
            rotate_left
            · intro w1 hSw; obtain ⟨hcS, hfS⟩ := bcell hSw; go_simp; (try with_reducible rfl)
            (try simp only [Act.put, List.setIfInBounds_toArray, List.set_cons_zero, List.set_cons_succ])
            refine wpAnyH_ready (rs := [8]) (by kernel_rfl) (by simp) ?_
            refine AllReadyH.cons rfl (fun K hK => ?_) AllReadyH.nil
            go_simp
            refine (l13Less y x _).mono ?_
            rintro e w7 ⟨rfl, hb⟩
            rw [HXY.out]
            refine hK.out _ _ (Below.and hq hb) (fun hq2 => ?_)
            clear hK K
            (try simp only [Act.put, List.setIfInBounds_toArray, List.set_cons_zero, List.set_cons_succ])
            refine takeD 9 43 (v := ?_) rfl rfl (by kernel_rfl) (by kernel_rfl) (by kernel_rfl) (fun _ _ _ h => h) (Or.inl ⟨by rfl, ?_⟩) (by assumption) ?_
            rotate_left
            · intro w1 hSw; obtain ⟨hcS, hfS⟩ := bcell hSw; go_simp; (try with_reducible rfl)
            (try simp only [Act.put, List.setIfInBounds_toArray, List.set_cons_zero, List.set_cons_succ])
            refine wpAnyH_done (by kernel_rfl) ?_ _
            have hb9 := hq2
            replace OW := Lib.hid (OW.out.below hb9)
            replace F := Lib.hid (grownBy_trans F.out (Below.grownBy hb9 _))
            replace Z := Lib.hid (Z.out.trans (hb9.mono (Nat.le_trans HLO.out Z.out.size)))
            have OWg := Lib.hid (show g < w7.heap.size from (own_block_ge (show World.ownsRow _ _ _ _ _ _ _ from OW.out) g rfl).2)
            clear hb9 x0 x1 x2 y0 y1 y2 lg
            obtain ⟨x0, x1, x2⟩ := ownC OW.out i (by have := HN.out; omega) x Hx.out
            obtain ⟨y0, y1, y2⟩ := ownC OW.out c (by have := HN.out; omega) y Hy.out
            have lg := OWg.out
            go_upto_region 8 with (fail)
            have hba : Below w7.heap.size w7 (w7.alloc (.cells (tmCs x) 25)) := (Below.refl _ _).alloc (Nat.le_refl _) _
            have KX : Hid (Bkk (w7.alloc (.cells (tmCs x) 25)) w7.heap.size 25 (tmCs x)) := Bkk.new _
            have HGX := Lib.hid (show g ≠ w7.heap.size by have := OWg.out; omega)
            replace OW := Lib.hid (OW.out.below hba)
            replace Z := Lib.hid (Z.out.trans (hba.mono (Nat.le_trans HLO.out Z.out.size)))
            replace F := Lib.hid (grownBy_trans F.out (Below.grownBy hba _))
            clear hba
            go_upto_region 9 with (fail)
            obtain ⟨xb, hxb⟩ : ∃ X, X = w7.heap.size := ⟨_, rfl⟩
            obtain ⟨wa, hwa⟩ : ∃ X, X = w7.alloc (.cells (tmCs x) 25) := ⟨_, rfl⟩
            rw [← hwa] at OW KX Z F ⊢
            rw [← hxb] at KX HGX ⊢
            clear hwa hxb x0 x1 x2 y0 y1 y2
            obtain ⟨x0, x1, x2⟩ := ownC OW.out i (by have := HN.out; omega) x Hx.out
            obtain ⟨y0, y1, y2⟩ := ownC OW.out c (by have := HN.out; omega) y Hy.out
            have fz := OW.out.frz
            go_upto_region 10 with (fail)
            have SW := Lib.hid (swp_rows OW.out i c (by have := HN.out; omega) (by have := HN.out; omega) x y Hx.out Hy.out)
            have Z6 := Lib.hid (sets6 Z.out HGL.out (i * 3) (i * 3 + 1) (i * 3 + 2) (c * 3) (c * 3 + 1) (c * 3 + 2) (.int .i64 y.a) (.int .i64 y.f) (.int .i64 y.n) (.int .i64 x.a) (.int .i64 x.f) (.int .i64 x.n))
            have F6 := Lib.hid (grownBy_trans F.out (sets6h wa g (i * 3) (i * 3 + 1) (i * 3 + 2) (c * 3) (c * 3 + 1) (c * 3 + 2) (.int .i64 y.a) (.int .i64 y.f) (.int .i64 y.n) (.int .i64 x.a) (.int .i64 x.f) (.int .i64 x.n)))
            have OW1 := Lib.hid (OW.out.set i y (by have := HN.out; omega))
            have KX1 := Lib.hid (((KX.out.far (Ne.symm HGX.out) (i * 3) (.int .i64 y.a)).far (Ne.symm HGX.out) (i * 3 + 1) (.int .i64 y.f)).far (Ne.symm HGX.out) (i * 3 + 2) (.int .i64 y.n))
            obtain ⟨wb, hwb⟩ : ∃ X, X = (((wa.setCell ⟨g, i * 3, none⟩ (.int .i64 y.a)).setCell ⟨g, i * 3 + 1, none⟩ (.int .i64 y.f)).setCell ⟨g, i * 3 + 2, none⟩ (.int .i64 y.n)) := ⟨_, rfl⟩
            rw [← hwb] at SW Z6 OW1 KX1 F6 ⊢
            clear hwb x0 x1 x2 y0 y1 y2 fz KX OW Z lg
            obtain ⟨x0, x1, x2⟩ := (show wb.cell? ⟨xb, 0, none⟩ = some (.int .i64 x.a) ∧ wb.cell? ⟨xb, 1, none⟩ = some (.int .i64 x.f) ∧ wb.cell? ⟨xb, 2, none⟩ = some (.int .i64 x.n) from ⟨KX1.out.cell 0, KX1.out.cell 1, KX1.out.cell 2⟩)
            obtain ⟨z, hz⟩ : ∃ z, at' (L'.set i y) c = z := ⟨_, rfl⟩
            obtain ⟨y0, y1, y2⟩ := ownC OW1.out c (by have := HN.out; simp; omega) z hz
            have fz := OW1.out.frz
            clear hz
            go_upto_region 11 with (fail)
            obtain ⟨wS, hwS⟩ : ∃ X, X = (((wb.setCell ⟨g, c * 3, none⟩ (.int .i64 x.a)).setCell ⟨g, c * 3 + 1, none⟩ (.int .i64 x.f)).setCell ⟨g, c * 3 + 2, none⟩ (.int .i64 x.n)) := ⟨_, rfl⟩
            rw [← hwS] at SW Z6 F6 ⊢
            clear hwS x0 x1 x2 y0 y1 y2 fz OW1 KX1 OWg HGX
            have HE := Lib.hid (show sinkT (swp L' i c) c = R by
              rw [← HR.out, sink_go L' i (by rw [HCC.out, HN.out]; exact HCN.out) (by rw [HCC.out, Hx.out, Hy.out]; exact HXY.out), HCC.out])
            have HN2 := Lib.hid (show (swp L' i c).length = n by rw [swp_len]; exact HN.out)
            clear HXY HCC HR HN Hx Hy
            generalize swp L' i c = L3 at HE HN2 SW
            go_wp2
            go_roundw
            case rel => exact ⟨c, L3, by omega, by go_num, HN2.out, SW.out, HE.out, Z6.out, F6.out⟩
            case measure => (simp [intOf]; omega)
        · obtain ⟨c, hc⟩ : ∃ c, c = k + 1 := ⟨_, rfl⟩
          have h9 : k + 1 < n ∧ lessT (at' L' (k + 1)) (at' L' k) = true := by have := HB.out; simpa using this
          have HCC := Lib.hid (show childT L' i = c by
            have h8 := HK.out
            subst hc
            subst h8
            unfold childT
            rw [HN.out, if_pos ⟨by omega, h9.2⟩])
          have HCN := Lib.hid (show c < n by omega)
          have HIC := Lib.hid (show i < c by have := HIK.out; omega)
          have EC := Lib.hid (show (k : Int) + 1 = (c : Int) by omega)
          have hkb : k ≤ 1048576 := by omega
          clear hc HB HK EK HIK h9
          go_upto_region 6 with (fail)
          rw [EC.out]
          clear EC h1k hkb
          obtain ⟨x, hx⟩ : ∃ x, at' L' i = x := ⟨_, rfl⟩
          obtain ⟨y, hy⟩ : ∃ y, at' L' c = y := ⟨_, rfl⟩
          have Hx := Lib.hid hx
          have Hy := Lib.hid hy
          clear hx hy
          obtain ⟨b, hb⟩ : ∃ b, lessT y x = b := ⟨_, rfl⟩
          have HXY := Lib.hid hb
          clear hb
          have OWg := Lib.hid (show g < wc.heap.size from (own_block_ge (show World.ownsRow _ _ _ _ _ _ _ from OW.out) g rfl).2)
          have hic := HIC.out
          have hcn := HCN.out
          obtain ⟨x0, x1, x2⟩ := ownC OW.out i (by have := HN.out; omega) x Hx.out
          obtain ⟨y0, y1, y2⟩ := ownC OW.out c (by have := HN.out; omega) y Hy.out
          have lg := OWg.out
          have i0 : (0 : Int) ≤ (i : Int) := by omega
          have i1 : (i : Int) < (n : Int) := by omega
          have c0 : (0 : Int) ≤ (c : Int) := by omega
          have c1 : (c : Int) < (n : Int) := by omega
          go_upto_region 6 with (fail)
          rcases b with _ | _
          · skip
            refine wp_region_held_drew (S := fun w1 => Below wc.heap.size wc w1) (by kernel_rfl) ((Below.refl _ _).drew) (fun hq => ?_)
            refine takeD 0 34 (v := ?_) rfl rfl (by kernel_rfl) (by kernel_rfl) (by kernel_rfl) (fun _ _ _ h => h) (Or.inl ⟨by rfl, ?_⟩) (by assumption) ?_
            rotate_left
            · intro w1 hSw; obtain ⟨hcS, hfS⟩ := bcell hSw; go_simp; (try with_reducible rfl)
            (try simp only [Act.put, List.setIfInBounds_toArray, List.set_cons_zero, List.set_cons_succ])
            refine takeD 1 35 (v := ?_) rfl rfl (by kernel_rfl) (by kernel_rfl) (by kernel_rfl) (fun _ _ _ h => h) (Or.inl ⟨by rfl, ?_⟩) (by assumption) ?_
            rotate_left
            · intro w1 hSw; obtain ⟨hcS, hfS⟩ := bcell hSw; go_simp; (try with_reducible rfl)
            (try simp only [Act.put, List.setIfInBounds_toArray, List.set_cons_zero, List.set_cons_succ])
            refine takeD 2 36 (v := ?_) rfl rfl (by kernel_rfl) (by kernel_rfl) (by kernel_rfl) (fun _ _ _ h => h) (Or.inl ⟨by rfl, ?_⟩) (by assumption) ?_
            rotate_left
            · intro w1 hSw; obtain ⟨hcS, hfS⟩ := bcell hSw; go_simp; (try with_reducible rfl)
            (try simp only [Act.put, List.setIfInBounds_toArray, List.set_cons_zero, List.set_cons_succ])
            refine takeD 3 37 (v := ?_) rfl rfl (by kernel_rfl) (by kernel_rfl) (by kernel_rfl) (fun _ _ _ h => h) (Or.inl ⟨by rfl, ?_⟩) (by assumption) ?_
            rotate_left
            · intro w1 hSw; obtain ⟨hcS, hfS⟩ := bcell hSw; go_simp; (try with_reducible rfl)
            (try simp only [Act.put, List.setIfInBounds_toArray, List.set_cons_zero, List.set_cons_succ])
            refine takeD 4 38 (v := ?_) rfl rfl (by kernel_rfl) (by kernel_rfl) (by kernel_rfl) (fun _ _ _ h => h) (Or.inl ⟨by rfl, ?_⟩) (by assumption) ?_
            rotate_left
            · intro w1 hSw; obtain ⟨hcS, hfS⟩ := bcell hSw; go_simp; (try with_reducible rfl)
            (try simp only [Act.put, List.setIfInBounds_toArray, List.set_cons_zero, List.set_cons_succ])
            refine takeD 5 39 (v := ?_) rfl rfl (by kernel_rfl) (by kernel_rfl) (by kernel_rfl) (fun _ _ _ h => h) (Or.inl ⟨by rfl, ?_⟩) (by assumption) ?_
            rotate_left
            · intro w1 hSw; obtain ⟨hcS, hfS⟩ := bcell hSw; go_simp; (try with_reducible rfl)
            (try simp only [Act.put, List.setIfInBounds_toArray, List.set_cons_zero, List.set_cons_succ])
            refine takeD 6 40 (v := ?_) rfl rfl (by kernel_rfl) (by kernel_rfl) (by kernel_rfl) (fun _ _ _ h => h) (Or.inl ⟨by rfl, ?_⟩) (by assumption) ?_
            rotate_left
            · intro w1 hSw; obtain ⟨hcS, hfS⟩ := bcell hSw; go_simp; (try with_reducible rfl)
            (try simp only [Act.put, List.setIfInBounds_toArray, List.set_cons_zero, List.set_cons_succ])
            refine takeD 7 41 (v := ?_) rfl rfl (by kernel_rfl) (by kernel_rfl) (by kernel_rfl) (fun _ _ _ h => h) (Or.inl ⟨by rfl, ?_⟩) (by assumption) ?_
            rotate_left
            · intro w1 hSw; obtain ⟨hcS, hfS⟩ := bcell hSw; go_simp; (try with_reducible rfl)
            (try simp only [Act.put, List.setIfInBounds_toArray, List.set_cons_zero, List.set_cons_succ])
            refine wpAnyH_ready (rs := [8]) (by kernel_rfl) (by simp) ?_
            refine AllReadyH.cons rfl (fun K hK => ?_) AllReadyH.nil
            go_simp
            refine (l13Less y x _).mono ?_
            rintro e w7 ⟨rfl, hb⟩
            rw [HXY.out]
            refine hK.out _ _ (Below.and hq hb) (fun hq2 => ?_)
            clear hK K
            (try simp only [Act.put, List.setIfInBounds_toArray, List.set_cons_zero, List.set_cons_succ])
            refine takeD 9 43 (v := ?_) rfl rfl (by kernel_rfl) (by kernel_rfl) (by kernel_rfl) (fun _ _ _ h => h) (Or.inl ⟨by rfl, ?_⟩) (by assumption) ?_
            rotate_left
            · intro w1 hSw; obtain ⟨hcS, hfS⟩ := bcell hSw; go_simp; (try with_reducible rfl)
            (try simp only [Act.put, List.setIfInBounds_toArray, List.set_cons_zero, List.set_cons_succ])
            refine wpAnyH_done (by kernel_rfl) ?_ _
            have hb9 := hq2
            have HE := Lib.hid (show L' = R by rw [← HR.out, sink_end L' i (fun h => by rw [HCC.out, Hx.out, Hy.out]; exact HXY.out)])
            have OW9 := Lib.hid (OW.out.below hb9)
            have F9 := Lib.hid (grownBy_trans F.out (Below.grownBy hb9 _))
            have Z9 := Lib.hid (Z.out.trans (hb9.mono (Nat.le_trans HLO.out Z.out.size)))
            go_wp2
            go_light
            go_ret
            exact ⟨rfl, HE.out ▸ OW9.out, Z9.out, F9.out⟩
          · skip
            refine wp_region_held_drew (S := fun w1 => Below wc.heap.size wc w1) (by kernel_rfl) ((Below.refl _ _).drew) (fun hq => ?_)
            refine takeD 0 34 (v := ?_) rfl rfl (by kernel_rfl) (by kernel_rfl) (by kernel_rfl) (fun _ _ _ h => h) (Or.inl ⟨by rfl, ?_⟩) (by assumption) ?_
            rotate_left
            · intro w1 hSw; obtain ⟨hcS, hfS⟩ := bcell hSw; go_simp; (try with_reducible rfl)
            (try simp only [Act.put, List.setIfInBounds_toArray, List.set_cons_zero, List.set_cons_succ])
            refine takeD 1 35 (v := ?_) rfl rfl (by kernel_rfl) (by kernel_rfl) (by kernel_rfl) (fun _ _ _ h => h) (Or.inl ⟨by rfl, ?_⟩) (by assumption) ?_
            rotate_left
            · intro w1 hSw; obtain ⟨hcS, hfS⟩ := bcell hSw; go_simp; (try with_reducible rfl)
            (try simp only [Act.put, List.setIfInBounds_toArray, List.set_cons_zero, List.set_cons_succ])
            refine takeD 2 36 (v := ?_) rfl rfl (by kernel_rfl) (by kernel_rfl) (by kernel_rfl) (fun _ _ _ h => h) (Or.inl ⟨by rfl, ?_⟩) (by assumption) ?_
            rotate_left
            · intro w1 hSw; obtain ⟨hcS, hfS⟩ := bcell hSw; go_simp; (try with_reducible rfl)
            (try simp only [Act.put, List.setIfInBounds_toArray, List.set_cons_zero, List.set_cons_succ])
            refine takeD 3 37 (v := ?_) rfl rfl (by kernel_rfl) (by kernel_rfl) (by kernel_rfl) (fun _ _ _ h => h) (Or.inl ⟨by rfl, ?_⟩) (by assumption) ?_
            rotate_left
            · intro w1 hSw; obtain ⟨hcS, hfS⟩ := bcell hSw; go_simp; (try with_reducible rfl)
            (try simp only [Act.put, List.setIfInBounds_toArray, List.set_cons_zero, List.set_cons_succ])
            refine takeD 4 38 (v := ?_) rfl rfl (by kernel_rfl) (by kernel_rfl) (by kernel_rfl) (fun _ _ _ h => h) (Or.inl ⟨by rfl, ?_⟩) (by assumption) ?_
            rotate_left
            · intro w1 hSw; obtain ⟨hcS, hfS⟩ := bcell hSw; go_simp; (try with_reducible rfl)
            (try simp only [Act.put, List.setIfInBounds_toArray, List.set_cons_zero, List.set_cons_succ])
            refine takeD 5 39 (v := ?_) rfl rfl (by kernel_rfl) (by kernel_rfl) (by kernel_rfl) (fun _ _ _ h => h) (Or.inl ⟨by rfl, ?_⟩) (by assumption) ?_
            rotate_left
            · intro w1 hSw; obtain ⟨hcS, hfS⟩ := bcell hSw; go_simp; (try with_reducible rfl)
            (try simp only [Act.put, List.setIfInBounds_toArray, List.set_cons_zero, List.set_cons_succ])
            refine takeD 6 40 (v := ?_) rfl rfl (by kernel_rfl) (by kernel_rfl) (by kernel_rfl) (fun _ _ _ h => h) (Or.inl ⟨by rfl, ?_⟩) (by assumption) ?_
            rotate_left
            · intro w1 hSw; obtain ⟨hcS, hfS⟩ := bcell hSw; go_simp; (try with_reducible rfl)
            (try simp only [Act.put, List.setIfInBounds_toArray, List.set_cons_zero, List.set_cons_succ])
            refine takeD 7 41 (v := ?_) rfl rfl (by kernel_rfl) (by kernel_rfl) (by kernel_rfl) (fun _ _ _ h => h) (Or.inl ⟨by rfl, ?_⟩) (by assumption) ?_
            rotate_left
            · intro w1 hSw; obtain ⟨hcS, hfS⟩ := bcell hSw; go_simp; (try with_reducible rfl)
            (try simp only [Act.put, List.setIfInBounds_toArray, List.set_cons_zero, List.set_cons_succ])
            refine wpAnyH_ready (rs := [8]) (by kernel_rfl) (by simp) ?_
            refine AllReadyH.cons rfl (fun K hK => ?_) AllReadyH.nil
            go_simp
            refine (l13Less y x _).mono ?_
            rintro e w7 ⟨rfl, hb⟩
            rw [HXY.out]
            refine hK.out _ _ (Below.and hq hb) (fun hq2 => ?_)
            clear hK K
            (try simp only [Act.put, List.setIfInBounds_toArray, List.set_cons_zero, List.set_cons_succ])
            refine takeD 9 43 (v := ?_) rfl rfl (by kernel_rfl) (by kernel_rfl) (by kernel_rfl) (fun _ _ _ h => h) (Or.inl ⟨by rfl, ?_⟩) (by assumption) ?_
            rotate_left
            · intro w1 hSw; obtain ⟨hcS, hfS⟩ := bcell hSw; go_simp; (try with_reducible rfl)
            (try simp only [Act.put, List.setIfInBounds_toArray, List.set_cons_zero, List.set_cons_succ])
            refine wpAnyH_done (by kernel_rfl) ?_ _
            have hb9 := hq2
            replace OW := Lib.hid (OW.out.below hb9)
            replace F := Lib.hid (grownBy_trans F.out (Below.grownBy hb9 _))
            replace Z := Lib.hid (Z.out.trans (hb9.mono (Nat.le_trans HLO.out Z.out.size)))
            have OWg := Lib.hid (show g < w7.heap.size from (own_block_ge (show World.ownsRow _ _ _ _ _ _ _ from OW.out) g rfl).2)
            clear hb9 x0 x1 x2 y0 y1 y2 lg
            obtain ⟨x0, x1, x2⟩ := ownC OW.out i (by have := HN.out; omega) x Hx.out
            obtain ⟨y0, y1, y2⟩ := ownC OW.out c (by have := HN.out; omega) y Hy.out
            have lg := OWg.out
            go_upto_region 8 with (fail)
            have hba : Below w7.heap.size w7 (w7.alloc (.cells (tmCs x) 25)) := (Below.refl _ _).alloc (Nat.le_refl _) _
            have KX : Hid (Bkk (w7.alloc (.cells (tmCs x) 25)) w7.heap.size 25 (tmCs x)) := Bkk.new _
            have HGX := Lib.hid (show g ≠ w7.heap.size by have := OWg.out; omega)
            replace OW := Lib.hid (OW.out.below hba)
            replace Z := Lib.hid (Z.out.trans (hba.mono (Nat.le_trans HLO.out Z.out.size)))
            replace F := Lib.hid (grownBy_trans F.out (Below.grownBy hba _))
            clear hba
            go_upto_region 9 with (fail)
            obtain ⟨xb, hxb⟩ : ∃ X, X = w7.heap.size := ⟨_, rfl⟩
            obtain ⟨wa, hwa⟩ : ∃ X, X = w7.alloc (.cells (tmCs x) 25) := ⟨_, rfl⟩
            rw [← hwa] at OW KX Z F ⊢
            rw [← hxb] at KX HGX ⊢
            clear hwa hxb x0 x1 x2 y0 y1 y2
            obtain ⟨x0, x1, x2⟩ := ownC OW.out i (by have := HN.out; omega) x Hx.out
            obtain ⟨y0, y1, y2⟩ := ownC OW.out c (by have := HN.out; omega) y Hy.out
            have fz := OW.out.frz
            go_upto_region 10 with (fail)
            have SW := Lib.hid (swp_rows OW.out i c (by have := HN.out; omega) (by have := HN.out; omega) x y Hx.out Hy.out)
            have Z6 := Lib.hid (sets6 Z.out HGL.out (i * 3) (i * 3 + 1) (i * 3 + 2) (c * 3) (c * 3 + 1) (c * 3 + 2) (.int .i64 y.a) (.int .i64 y.f) (.int .i64 y.n) (.int .i64 x.a) (.int .i64 x.f) (.int .i64 x.n))
            have F6 := Lib.hid (grownBy_trans F.out (sets6h wa g (i * 3) (i * 3 + 1) (i * 3 + 2) (c * 3) (c * 3 + 1) (c * 3 + 2) (.int .i64 y.a) (.int .i64 y.f) (.int .i64 y.n) (.int .i64 x.a) (.int .i64 x.f) (.int .i64 x.n)))
            have OW1 := Lib.hid (OW.out.set i y (by have := HN.out; omega))
            have KX1 := Lib.hid (((KX.out.far (Ne.symm HGX.out) (i * 3) (.int .i64 y.a)).far (Ne.symm HGX.out) (i * 3 + 1) (.int .i64 y.f)).far (Ne.symm HGX.out) (i * 3 + 2) (.int .i64 y.n))
            obtain ⟨wb, hwb⟩ : ∃ X, X = (((wa.setCell ⟨g, i * 3, none⟩ (.int .i64 y.a)).setCell ⟨g, i * 3 + 1, none⟩ (.int .i64 y.f)).setCell ⟨g, i * 3 + 2, none⟩ (.int .i64 y.n)) := ⟨_, rfl⟩
            rw [← hwb] at SW Z6 OW1 KX1 F6 ⊢
            clear hwb x0 x1 x2 y0 y1 y2 fz KX OW Z lg
            obtain ⟨x0, x1, x2⟩ := (show wb.cell? ⟨xb, 0, none⟩ = some (.int .i64 x.a) ∧ wb.cell? ⟨xb, 1, none⟩ = some (.int .i64 x.f) ∧ wb.cell? ⟨xb, 2, none⟩ = some (.int .i64 x.n) from ⟨KX1.out.cell 0, KX1.out.cell 1, KX1.out.cell 2⟩)
            obtain ⟨z, hz⟩ : ∃ z, at' (L'.set i y) c = z := ⟨_, rfl⟩
            obtain ⟨y0, y1, y2⟩ := ownC OW1.out c (by have := HN.out; simp; omega) z hz
            have fz := OW1.out.frz
            clear hz
            go_upto_region 11 with (fail)
            obtain ⟨wS, hwS⟩ : ∃ X, X = (((wb.setCell ⟨g, c * 3, none⟩ (.int .i64 x.a)).setCell ⟨g, c * 3 + 1, none⟩ (.int .i64 x.f)).setCell ⟨g, c * 3 + 2, none⟩ (.int .i64 x.n)) := ⟨_, rfl⟩
            rw [← hwS] at SW Z6 F6 ⊢
            clear hwS x0 x1 x2 y0 y1 y2 fz OW1 KX1 OWg HGX
            have HE := Lib.hid (show sinkT (swp L' i c) c = R by
              rw [← HR.out, sink_go L' i (by rw [HCC.out, HN.out]; exact HCN.out) (by rw [HCC.out, Hx.out, Hy.out]; exact HXY.out), HCC.out])
            have HN2 := Lib.hid (show (swp L' i c).length = n by rw [swp_len]; exact HN.out)
            clear HXY HCC HR HN Hx Hy
            generalize swp L' i c = L3 at HE HN2 SW
            go_wp2
            go_roundw
            case rel => exact ⟨c, L3, by omega, by go_num, HN2.out, SW.out, HE.out, Z6.out, F6.out⟩
            case measure => (simp [intOf]; omega)
    · have d1 : ¬ 2 * (i : Int) + 1 < (n : Int) := by omega
      have HE := Lib.hid (show L' = R by
        rw [← HR.out, sink_end L' i (fun h => by
          rw [HN.out] at h
          unfold childT at h
          split at h <;> omega)])
      go_wp2
      go_light
      go_ret
      exact ⟨rfl, HE.out ▸ OW.out, Z.out, F.out⟩

end Go.Proofs.Ytgnemgnhjallhaa
