/- What comes till a time comes in order: the law. -/
import Derived.Test.YtgnemgnhjallhaaVw
namespace Go.Proofs.Ytgnemgnhjallhaa
open Go.ChangeShapes Go.WideShapes Go.ChangeAt Go.RowKit
set_option linter.unusedVariables false
set_option linter.unusedSimpArgs false

set_option maxRecDepth 100000 in
set_option maxHeartbeats 8000000 in
theorem lawQueueTill (A : Option Addr) (c n : Nat) (w : World) (hn : n ≤ maxLen) (hc : n ≤ c) (hb : InB w A n) :
    Calls Try.prog 5 #[.slice A n c] w fun e w' => e = .returned (.bool true) ∧ Below w.heap.size w w' := by
  have HB := Lib.hid hb
  clear hb
  go_enter Try.func5, Try.ntmps5
  by_cases h : n > 1048576
  · go_wp2
    go_light
    go_ret
    exact ⟨rfl, Below.refl _ _⟩
  go_wp2_with (fail)
  refine (drawQueueTill (by omega) hc HB.out).mono ?_
  rintro e w1 ⟨L, B, d, t, rfl, hl, oo, hb⟩
  have OQ := Lib.hid oo
  have Z := Lib.hid hb
  clear hb HB h oo
  obtain ⟨⟨R, D⟩, hY⟩ : ∃ Y, tillQ L t = Y := ⟨_, rfl⟩
  have HY := Lib.hid hY
  have hrl : R.length ≤ L.length ∧ D.length ≤ L.length := by have := tillQ_len L t; rw [hY] at this; exact this
  have hrl1 := hrl.1
  have hdl1 := hrl.2
  clear hY hrl
  go_wp2_with (fail)
  refine (implQueueTill B d L t _ (by omega) OQ.out.rdT).mono ?_
  rw [HY.out]
  rintro e w2 ⟨A2, a2, B2, b2, rfl, o2, hb⟩
  have OX := Lib.hid o2.x
  have OD := Lib.hid o2.d
  replace Z := Lib.hid (Below.and Z.out hb)
  replace OQ := Lib.hid (OQ.out.below hb)
  clear o2 hb
  go_wp2_with (fail)
  refine (specQueueTill B d L t _ (by omega) OQ.out.rdT).mono ?_
  rw [HY.out]
  rintro e w3 ⟨A3, a3, B3, b3, rfl, o2, hb⟩
  have OW := Lib.hid o2.x
  have OV := Lib.hid o2.d
  replace Z := Lib.hid (Below.and Z.out hb)
  replace OQ := Lib.hid (OQ.out.below hb)
  replace OX := Lib.hid (OX.out.below hb)
  replace OD := Lib.hid (OD.out.below hb)
  clear o2 hb
  obtain ⟨b, hb⟩ : ∃ b, okQ L = b := ⟨_, rfl⟩
  have HOK := Lib.hid hb
  clear hb
  go_wp2_with (fail)
  refine (wpTimed_rd _ _ _ _ _ _ (by omega) OX.out.rd OW.out.rd).mono ?_
  rintro e w4 ⟨rfl, hb⟩
  replace Z := Lib.hid (Below.and Z.out hb)
  replace OQ := Lib.hid (OQ.out.below hb)
  replace OX := Lib.hid (OX.out.below hb)
  replace OD := Lib.hid (OD.out.below hb)
  replace OW := Lib.hid (OW.out.below hb)
  replace OV := Lib.hid (OV.out.below hb)
  clear hb
  go_wp2_with (fail)
  refine (wpTimed_rd _ _ _ _ _ _ (by omega) OD.out.rd OV.out.rd).mono ?_
  rintro e w5 ⟨rfl, hb⟩
  replace Z := Lib.hid (Below.and Z.out hb)
  replace OQ := Lib.hid (OQ.out.below hb)
  replace OX := Lib.hid (OX.out.below hb)
  replace OD := Lib.hid (OD.out.below hb)
  replace OW := Lib.hid (OW.out.below hb)
  replace OV := Lib.hid (OV.out.below hb)
  clear hb
  go_wp2_with (fail)
  refine (implQueueOk _ _ _ _ (by omega) OQ.out.rdT).mono ?_
  rw [HOK.out]
  rintro e w6 ⟨rfl, hb⟩
  replace Z := Lib.hid (Below.and Z.out hb)
  replace OQ := Lib.hid (OQ.out.below hb)
  replace OX := Lib.hid (OX.out.below hb)
  replace OD := Lib.hid (OD.out.below hb)
  replace OW := Lib.hid (OW.out.below hb)
  replace OV := Lib.hid (OV.out.below hb)
  clear hb
  rcases b with _ | _
  · go_wp2_with (fail)
    refine (wpTimed_rd _ _ _ _ _ _ (by omega) OX.out.rd OW.out.rd).mono ?_
    rintro e w7 ⟨rfl, hb⟩
    replace Z := Lib.hid (Below.and Z.out hb)
    replace OQ := Lib.hid (OQ.out.below hb)
    replace OX := Lib.hid (OX.out.below hb)
    replace OD := Lib.hid (OD.out.below hb)
    replace OW := Lib.hid (OW.out.below hb)
    replace OV := Lib.hid (OV.out.below hb)
    clear hb
    go_wp2_with (fail)
    refine (wpTimed_rd _ _ _ _ _ _ (by omega) OD.out.rd OV.out.rd).mono ?_
    rintro e w8 ⟨rfl, hb⟩
    replace Z := Lib.hid (Below.and Z.out hb)
    replace OQ := Lib.hid (OQ.out.below hb)
    replace OX := Lib.hid (OX.out.below hb)
    replace OD := Lib.hid (OD.out.below hb)
    replace OW := Lib.hid (OW.out.below hb)
    replace OV := Lib.hid (OV.out.below hb)
    clear hb
    go_wp2
    go_light
    go_ret
    exact ⟨rfl, Z.out⟩
  · obtain ⟨hx, hasc, hle, hgt, hp⟩ := tillQ_facts (okQ_iff.1 HOK.out) HY.out
    have HOR := Lib.hid (okQ_iff.2 hx)
    have HA := Lib.hid hasc
    have HLE := Lib.hid hle
    have HGT := Lib.hid hgt
    have HPL := Lib.hid (show R.length + D.length = L.length by have := hp.length_eq; simp at this; omega)
    clear hx hasc hle hgt hp HOK HY
    go_wp2
    go_loopw [9] (fun v wr => ∃ j : Nat, j ≤ R.length ∧ v = .int .i64 (j : Int) ∧ Hid (Below w6.heap.size w6 wr)) (fun v _ => R.length - (intOf v).toNat)
    case atStart => exact ⟨0, Nat.zero_le _, rfl, Below.refl _ _⟩
    case round =>
      obtain ⟨j, hj, rfl, hB⟩ := hrel
      replace Z := Lib.hid (Below.and Z.out hB.out)
      replace OQ := Lib.hid (OQ.out.below hB.out)
      replace OX := Lib.hid (OX.out.below hB.out)
      replace OD := Lib.hid (OD.out.below hB.out)
      replace OW := Lib.hid (OW.out.below hB.out)
      replace OV := Lib.hid (OV.out.below hB.out)
      by_cases hlt : j < R.length
      · obtain ⟨g, o, hgo, yc⟩ := OX.out.rd j hlt
        subst hgo
        have hgt := HGT.out _ (List.getElem_mem hlt)
        generalize R[j] = y at yc hgt
        have y0 : wr.cell? ⟨g, o + j * 3, none⟩ = some (.int .i64 y.a) := yc 0 _ rfl
        have y1 : wr.cell? ⟨g, o + j * 3 + 1, none⟩ = some (.int .i64 y.f) := yc 1 _ rfl
        have y2 : wr.cell? ⟨g, o + j * 3 + 2, none⟩ = some (.int .i64 y.n) := yc 2 _ rfl
        clear yc
        have ngt : ¬ y.a ≤ t := by omega
        have i0 : (0 : Int) ≤ (j : Int) := by omega
        have i1 : (j : Int) < (R.length : Int) := by omega
        go_wp2
        go_roundw
        case rel => exact ⟨j + 1, by omega, by go_num, hB.out⟩
        case measure => (simp [intOf]; try omega)
      · have i1 : ¬ (j : Int) < (R.length : Int) := by omega
        obtain rfl : j = R.length := by omega
        clear HGT hlt hj
        obtain ⟨wk, hwk⟩ : ∃ X, X = wr := ⟨_, rfl⟩
        rw [← hwk] at Z OQ OX OD OW OV ⊢
        clear hwk hB
        go_wp2
        go_loopw [10] (fun v wr => ∃ j : Nat, j ≤ D.length ∧ v = .int .i64 (j : Int) ∧ Hid (Below wk.heap.size wk wr)) (fun v _ => D.length - (intOf v).toNat)
        case atStart => exact ⟨0, Nat.zero_le _, rfl, Below.refl _ _⟩
        case round =>
          obtain ⟨j, hj, rfl, hB⟩ := hrel
          replace Z := Lib.hid (Below.and Z.out hB.out)
          replace OQ := Lib.hid (OQ.out.below hB.out)
          replace OX := Lib.hid (OX.out.below hB.out)
          replace OD := Lib.hid (OD.out.below hB.out)
          replace OW := Lib.hid (OW.out.below hB.out)
          replace OV := Lib.hid (OV.out.below hB.out)
          by_cases hlt : j < D.length
          · obtain ⟨g, hgo, _, hgw⟩ := own_g OD.out (by omega)
            subst hgo
            obtain ⟨y, hy⟩ : ∃ y, at' D j = y := ⟨_, rfl⟩
            obtain ⟨y0, y1, y2⟩ := ownC OD.out j hlt y hy
            have hle := HLE.out y (by rw [← hy]; exact at_mem hlt)
            have ngt : decide (t < y.a) = false := by simp; omega
            have Hy := Lib.hid hy
            clear hy
            have i0 : (0 : Int) ≤ (j : Int) := by omega
            have i1 : (j : Int) < (D.length : Int) := by omega
            go_upto_region 16 with (fail)
            rcases j with _ | m
            · have d1 : decide ((0 : Int) < ((0 : Nat) : Int)) = false := rfl
              rw [show 0 * 3 = 0 from rfl] at y0 y1 y2
              refine wp_region_held_drew (S := fun w1 => Below wr.heap.size wr w1) (by kernel_rfl) ((Below.refl _ _).drew) (fun hq => ?_)
              refine takeD 0 73 (v := ?_) rfl rfl (by kernel_rfl) (by kernel_rfl) (by kernel_rfl) (fun _ _ _ h => h) (Or.inl ⟨by rfl, ?_⟩) (by assumption) ?_
              rotate_left
              · intro w1 hSw; obtain ⟨hcS, hfS⟩ := bcell hSw; go_simp; (try with_reducible rfl)
              (try simp only [Act.put, List.setIfInBounds_toArray, List.set_cons_zero, List.set_cons_succ])
              refine takeD 1 74 (v := ?_) rfl rfl (by kernel_rfl) (by kernel_rfl) (by kernel_rfl) (fun _ _ _ h => h) (Or.inl ⟨by rfl, ?_⟩) (by assumption) ?_
              rotate_left
              · intro w1 hSw; obtain ⟨hcS, hfS⟩ := bcell hSw; go_simp; (try with_reducible rfl)
              (try simp only [Act.put, List.setIfInBounds_toArray, List.set_cons_zero, List.set_cons_succ])
              refine takeD 2 75 (v := ?_) rfl rfl (by kernel_rfl) (by kernel_rfl) (by kernel_rfl) (fun _ _ _ h => h) (Or.inl ⟨by rfl, ?_⟩) (by assumption) ?_
              rotate_left
              · intro w1 hSw; obtain ⟨hcS, hfS⟩ := bcell hSw; go_simp; (try with_reducible rfl)
              (try simp only [Act.put, List.setIfInBounds_toArray, List.set_cons_zero, List.set_cons_succ])
              refine takeD 3 76 (v := ?_) rfl rfl (by kernel_rfl) (by kernel_rfl) (by kernel_rfl) (fun _ _ _ h => h) (Or.inl ⟨by rfl, ?_⟩) (by assumption) ?_
              rotate_left
              · intro w1 hSw; obtain ⟨hcS, hfS⟩ := bcell hSw; go_simp; (try with_reducible rfl)
              (try simp only [Act.put, List.setIfInBounds_toArray, List.set_cons_zero, List.set_cons_succ])
              refine takeD 4 77 (v := ?_) rfl rfl (by kernel_rfl) (by kernel_rfl) (by kernel_rfl) (fun _ _ _ h => h) (Or.inl ⟨by rfl, ?_⟩) (by assumption) ?_
              rotate_left
              · intro w1 hSw; obtain ⟨hcS, hfS⟩ := bcell hSw; go_simp; (try with_reducible rfl)
              (try simp only [Act.put, List.setIfInBounds_toArray, List.set_cons_zero, List.set_cons_succ])
              refine takeD 5 78 (v := ?_) rfl rfl (by kernel_rfl) (by kernel_rfl) (by kernel_rfl) (fun _ _ _ h => h) (Or.inl ⟨by rfl, ?_⟩) (by assumption) ?_
              rotate_left
              · intro w1 hSw; obtain ⟨hcS, hfS⟩ := bcell hSw; go_simp; (try with_reducible rfl)
              (try simp only [Act.put, List.setIfInBounds_toArray, List.set_cons_zero, List.set_cons_succ])
              refine takeD 6 79 (v := ?_) rfl rfl (by kernel_rfl) (by kernel_rfl) (by kernel_rfl) (fun _ _ _ h => h) (Or.inl ⟨by rfl, ?_⟩) (by assumption) ?_
              rotate_left
              · intro w1 hSw; obtain ⟨hcS, hfS⟩ := bcell hSw; go_simp; (try with_reducible rfl)
              (try simp only [Act.put, List.setIfInBounds_toArray, List.set_cons_zero, List.set_cons_succ])
              refine takeD 7 80 (v := ?_) rfl rfl (by kernel_rfl) (by kernel_rfl) (by kernel_rfl) (fun _ _ _ h => h) (Or.inl ⟨by rfl, ?_⟩) (by assumption) ?_
              rotate_left
              · intro w1 hSw; obtain ⟨hcS, hfS⟩ := bcell hSw; go_simp; (try with_reducible rfl)
              (try simp only [Act.put, List.setIfInBounds_toArray, List.set_cons_zero, List.set_cons_succ])
              refine takeD 8 81 (v := ?_) rfl rfl (by kernel_rfl) (by kernel_rfl) (by kernel_rfl) (fun _ _ _ h => h) (Or.inl ⟨by rfl, ?_⟩) (by assumption) ?_
              rotate_left
              · intro w1 hSw; obtain ⟨hcS, hfS⟩ := bcell hSw; go_simp; (try with_reducible rfl)
              (try simp only [Act.put, List.setIfInBounds_toArray, List.set_cons_zero, List.set_cons_succ])
              refine takeD 9 82 (v := ?_) rfl rfl (by kernel_rfl) (by kernel_rfl) (by kernel_rfl) (fun _ _ _ h => h) (Or.inl ⟨by rfl, ?_⟩) (by assumption) ?_
              rotate_left
              · intro w1 hSw; obtain ⟨hcS, hfS⟩ := bcell hSw; go_simp; (try with_reducible rfl)
              (try simp only [Act.put, List.setIfInBounds_toArray, List.set_cons_zero, List.set_cons_succ])
              refine takeD 10 83 (v := ?_) rfl rfl (by kernel_rfl) (by kernel_rfl) (by kernel_rfl) (fun _ _ _ h => h) (Or.inl ⟨by rfl, ?_⟩) (by assumption) ?_
              rotate_left
              · intro w1 hSw; obtain ⟨hcS, hfS⟩ := bcell hSw; go_simp; (try with_reducible rfl)
              (try simp only [Act.put, List.setIfInBounds_toArray, List.set_cons_zero, List.set_cons_succ])
              refine takeD 11 84 (v := undef) rfl rfl (by kernel_rfl) (by kernel_rfl) (by kernel_rfl) (fun _ _ _ h => h) (Or.inr ⟨by rfl, rfl⟩) (by assumption) ?_
              (try simp only [Act.put, List.setIfInBounds_toArray, List.set_cons_zero, List.set_cons_succ])
              refine takeD 12 85 (v := undef) rfl rfl (by kernel_rfl) (by kernel_rfl) (by kernel_rfl) (fun _ _ _ h => h) (Or.inr ⟨by rfl, rfl⟩) (by assumption) ?_
              (try simp only [Act.put, List.setIfInBounds_toArray, List.set_cons_zero, List.set_cons_succ])
              refine takeD 13 86 (v := undef) rfl rfl (by kernel_rfl) (by kernel_rfl) (by kernel_rfl) (fun _ _ _ h => h) (Or.inr ⟨by rfl, rfl⟩) (by assumption) ?_
              (try simp only [Act.put, List.setIfInBounds_toArray, List.set_cons_zero, List.set_cons_succ])
              refine takeD 14 87 (v := undef) rfl rfl (by kernel_rfl) (by kernel_rfl) (by kernel_rfl) (fun _ _ _ h => h) (Or.inr ⟨by rfl, rfl⟩) (by assumption) ?_
              (try simp only [Act.put, List.setIfInBounds_toArray, List.set_cons_zero, List.set_cons_succ])
              refine takeD 15 88 (v := undef) rfl rfl (by kernel_rfl) (by kernel_rfl) (by kernel_rfl) (fun _ _ _ h => h) (Or.inr ⟨by rfl, rfl⟩) (by assumption) ?_
              (try simp only [Act.put, List.setIfInBounds_toArray, List.set_cons_zero, List.set_cons_succ])
              refine takeD 16 89 (v := undef) rfl rfl (by kernel_rfl) (by kernel_rfl) (by kernel_rfl) (fun _ _ _ h => h) (Or.inr ⟨by rfl, rfl⟩) (by assumption) ?_
              (try simp only [Act.put, List.setIfInBounds_toArray, List.set_cons_zero, List.set_cons_succ])
              refine takeD 17 90 (v := undef) rfl rfl (by kernel_rfl) (by kernel_rfl) (by kernel_rfl) (fun _ _ _ h => h) (Or.inr ⟨by rfl, rfl⟩) (by assumption) ?_
              (try simp only [Act.put, List.setIfInBounds_toArray, List.set_cons_zero, List.set_cons_succ])
              refine takeD 18 91 (v := undef) rfl rfl (by kernel_rfl) (by kernel_rfl) (by kernel_rfl) (fun _ _ _ h => h) (Or.inr ⟨by rfl, rfl⟩) (by assumption) ?_
              (try simp only [Act.put, List.setIfInBounds_toArray, List.set_cons_zero, List.set_cons_succ])
              refine takeD 19 92 (v := undef) rfl rfl (by kernel_rfl) (by kernel_rfl) (by kernel_rfl) (fun _ _ _ h => h) (Or.inr ⟨by rfl, rfl⟩) (by assumption) ?_
              (try simp only [Act.put, List.setIfInBounds_toArray, List.set_cons_zero, List.set_cons_succ])
              refine takeD 20 93 (v := undef) rfl rfl (by kernel_rfl) (by kernel_rfl) (by kernel_rfl) (fun _ _ _ h => h) (Or.inr ⟨by rfl, rfl⟩) (by assumption) ?_
              (try simp only [Act.put, List.setIfInBounds_toArray, List.set_cons_zero, List.set_cons_succ])
              refine takeD 21 94 (v := undef) rfl rfl (by kernel_rfl) (by kernel_rfl) (by kernel_rfl) (fun _ _ _ h => h) (Or.inr ⟨by rfl, rfl⟩) (by assumption) ?_
              (try simp only [Act.put, List.setIfInBounds_toArray, List.set_cons_zero, List.set_cons_succ])
              refine takeD 22 95 (v := ?_) rfl rfl (by kernel_rfl) (by kernel_rfl) (by kernel_rfl) (fun _ _ _ h => h) (Or.inl ⟨by rfl, ?_⟩) (by assumption) ?_
              rotate_left
              · intro w1 hSw; obtain ⟨hcS, hfS⟩ := bcell hSw; go_simp; (try with_reducible rfl)
              (try simp only [Act.put, List.setIfInBounds_toArray, List.set_cons_zero, List.set_cons_succ])
              refine takeD 23 96 (v := ?_) rfl rfl (by kernel_rfl) (by kernel_rfl) (by kernel_rfl) (fun _ _ _ h => h) (Or.inl ⟨by rfl, ?_⟩) (by assumption) ?_
              rotate_left
              · intro w1 hSw; obtain ⟨hcS, hfS⟩ := bcell hSw; go_simp; (try with_reducible rfl)
              (try simp only [Act.put, List.setIfInBounds_toArray, List.set_cons_zero, List.set_cons_succ])
              refine wpAnyH_done (by kernel_rfl) ?_ _
              have hb := hq
              have HB9 := Lib.hid (Below.and hB.out hb)
              clear hb y0 y1 y2 ngt Hy hgw
              go_wp2
              go_roundw
              case rel => exact ⟨1, by omega, by go_num, HB9.out⟩
              case measure => (simp [intOf]; try omega)
            · obtain ⟨z, hz⟩ : ∃ z, at' D m = z := ⟨_, rfl⟩
              obtain ⟨z0, z1, z2⟩ := ownC OD.out m (by omega) z hz
              have HLT := Lib.hid (show lessT z y = true by
                rw [← hz, ← Hy.out, at_eq D m (by omega), at_eq D (m + 1) hlt]
                exact List.pairwise_iff_getElem.1 HA.out m (m + 1) (by omega) hlt (by omega))
              have d1 : (0 : Int) < (m : Int) + 1 := by omega
              have m1 : (0 : Int) ≤ (m : Int) + 1 := by omega
              have m2 : (m : Int) + 1 < (D.length : Int) := by omega
              have z3 : (0 : Int) ≤ (m : Int) := by omega
              have z4 : (m : Int) < (D.length : Int) := by omega
              have w3 : IntKind.i64.wrap (m : Int) = (m : Int) := wrap_nat m (by omega)
              clear hz Hy
              refine wp_region_held_drew (S := fun w1 => Below wr.heap.size wr w1) (by kernel_rfl) ((Below.refl _ _).drew) (fun hq => ?_)
              refine takeD 0 73 (v := ?_) rfl rfl (by kernel_rfl) (by kernel_rfl) (by kernel_rfl) (fun _ _ _ h => h) (Or.inl ⟨by rfl, ?_⟩) (by assumption) ?_
              rotate_left
              · intro w1 hSw; obtain ⟨hcS, hfS⟩ := bcell hSw; go_simp; (try with_reducible rfl)
              (try simp only [Act.put, List.setIfInBounds_toArray, List.set_cons_zero, List.set_cons_succ])
              refine takeD 1 74 (v := ?_) rfl rfl (by kernel_rfl) (by kernel_rfl) (by kernel_rfl) (fun _ _ _ h => h) (Or.inl ⟨by rfl, ?_⟩) (by assumption) ?_
              rotate_left
              · intro w1 hSw; obtain ⟨hcS, hfS⟩ := bcell hSw; go_simp; (try with_reducible rfl)
              (try simp only [Act.put, List.setIfInBounds_toArray, List.set_cons_zero, List.set_cons_succ])
              refine takeD 2 75 (v := ?_) rfl rfl (by kernel_rfl) (by kernel_rfl) (by kernel_rfl) (fun _ _ _ h => h) (Or.inl ⟨by rfl, ?_⟩) (by assumption) ?_
              rotate_left
              · intro w1 hSw; obtain ⟨hcS, hfS⟩ := bcell hSw; go_simp; (try with_reducible rfl)
              (try simp only [Act.put, List.setIfInBounds_toArray, List.set_cons_zero, List.set_cons_succ])
              refine takeD 3 76 (v := ?_) rfl rfl (by kernel_rfl) (by kernel_rfl) (by kernel_rfl) (fun _ _ _ h => h) (Or.inl ⟨by rfl, ?_⟩) (by assumption) ?_
              rotate_left
              · intro w1 hSw; obtain ⟨hcS, hfS⟩ := bcell hSw; go_simp; (try with_reducible rfl)
              (try simp only [Act.put, List.setIfInBounds_toArray, List.set_cons_zero, List.set_cons_succ])
              refine takeD 4 77 (v := ?_) rfl rfl (by kernel_rfl) (by kernel_rfl) (by kernel_rfl) (fun _ _ _ h => h) (Or.inl ⟨by rfl, ?_⟩) (by assumption) ?_
              rotate_left
              · intro w1 hSw; obtain ⟨hcS, hfS⟩ := bcell hSw; go_simp; (try with_reducible rfl)
              (try simp only [Act.put, List.setIfInBounds_toArray, List.set_cons_zero, List.set_cons_succ])
              refine takeD 5 78 (v := ?_) rfl rfl (by kernel_rfl) (by kernel_rfl) (by kernel_rfl) (fun _ _ _ h => h) (Or.inl ⟨by rfl, ?_⟩) (by assumption) ?_
              rotate_left
              · intro w1 hSw; obtain ⟨hcS, hfS⟩ := bcell hSw; go_simp; (try with_reducible rfl)
              (try simp only [Act.put, List.setIfInBounds_toArray, List.set_cons_zero, List.set_cons_succ])
              refine takeD 6 79 (v := ?_) rfl rfl (by kernel_rfl) (by kernel_rfl) (by kernel_rfl) (fun _ _ _ h => h) (Or.inl ⟨by rfl, ?_⟩) (by assumption) ?_
              rotate_left
              · intro w1 hSw; obtain ⟨hcS, hfS⟩ := bcell hSw; go_simp; (try with_reducible rfl)
              (try simp only [Act.put, List.setIfInBounds_toArray, List.set_cons_zero, List.set_cons_succ])
              refine takeD 7 80 (v := ?_) rfl rfl (by kernel_rfl) (by kernel_rfl) (by kernel_rfl) (fun _ _ _ h => h) (Or.inl ⟨by rfl, ?_⟩) (by assumption) ?_
              rotate_left
              · intro w1 hSw; obtain ⟨hcS, hfS⟩ := bcell hSw; go_simp; (try with_reducible rfl)
              (try simp only [Act.put, List.setIfInBounds_toArray, List.set_cons_zero, List.set_cons_succ])
              refine takeD 8 81 (v := ?_) rfl rfl (by kernel_rfl) (by kernel_rfl) (by kernel_rfl) (fun _ _ _ h => h) (Or.inl ⟨by rfl, ?_⟩) (by assumption) ?_
              rotate_left
              · intro w1 hSw; obtain ⟨hcS, hfS⟩ := bcell hSw; go_simp; (try with_reducible rfl)
              (try simp only [Act.put, List.setIfInBounds_toArray, List.set_cons_zero, List.set_cons_succ])
              refine takeD 9 82 (v := ?_) rfl rfl (by kernel_rfl) (by kernel_rfl) (by kernel_rfl) (fun _ _ _ h => h) (Or.inl ⟨by rfl, ?_⟩) (by assumption) ?_
              rotate_left
              · intro w1 hSw; obtain ⟨hcS, hfS⟩ := bcell hSw; go_simp; (try with_reducible rfl)
              (try simp only [Act.put, List.setIfInBounds_toArray, List.set_cons_zero, List.set_cons_succ])
              refine takeD 10 83 (v := ?_) rfl rfl (by kernel_rfl) (by kernel_rfl) (by kernel_rfl) (fun _ _ _ h => h) (Or.inl ⟨by rfl, ?_⟩) (by assumption) ?_
              rotate_left
              · intro w1 hSw; obtain ⟨hcS, hfS⟩ := bcell hSw; go_simp; (try with_reducible rfl)
              (try simp only [Act.put, List.setIfInBounds_toArray, List.set_cons_zero, List.set_cons_succ])
              refine takeD 11 84 (v := ?_) rfl rfl (by kernel_rfl) (by kernel_rfl) (by kernel_rfl) (fun _ _ _ h => h) (Or.inl ⟨by rfl, ?_⟩) (by assumption) ?_
              rotate_left
              · intro w1 hSw; obtain ⟨hcS, hfS⟩ := bcell hSw; go_simp; (try with_reducible rfl)
              (try simp only [Act.put, List.setIfInBounds_toArray, List.set_cons_zero, List.set_cons_succ])
              refine takeD 12 85 (v := ?_) rfl rfl (by kernel_rfl) (by kernel_rfl) (by kernel_rfl) (fun _ _ _ h => h) (Or.inl ⟨by rfl, ?_⟩) (by assumption) ?_
              rotate_left
              · intro w1 hSw; obtain ⟨hcS, hfS⟩ := bcell hSw; go_simp; (try with_reducible rfl)
              (try simp only [Act.put, List.setIfInBounds_toArray, List.set_cons_zero, List.set_cons_succ])
              refine takeD 13 86 (v := ?_) rfl rfl (by kernel_rfl) (by kernel_rfl) (by kernel_rfl) (fun _ _ _ h => h) (Or.inl ⟨by rfl, ?_⟩) (by assumption) ?_
              rotate_left
              · intro w1 hSw; obtain ⟨hcS, hfS⟩ := bcell hSw; go_simp; (try with_reducible rfl)
              (try simp only [Act.put, List.setIfInBounds_toArray, List.set_cons_zero, List.set_cons_succ])
              refine takeD 14 87 (v := ?_) rfl rfl (by kernel_rfl) (by kernel_rfl) (by kernel_rfl) (fun _ _ _ h => h) (Or.inl ⟨by rfl, ?_⟩) (by assumption) ?_
              rotate_left
              · intro w1 hSw; obtain ⟨hcS, hfS⟩ := bcell hSw; go_simp; (try with_reducible rfl)
              (try simp only [Act.put, List.setIfInBounds_toArray, List.set_cons_zero, List.set_cons_succ])
              refine takeD 15 88 (v := ?_) rfl rfl (by kernel_rfl) (by kernel_rfl) (by kernel_rfl) (fun _ _ _ h => h) (Or.inl ⟨by rfl, ?_⟩) (by assumption) ?_
              rotate_left
              · intro w1 hSw; obtain ⟨hcS, hfS⟩ := bcell hSw; go_simp; (try with_reducible rfl)
              (try simp only [Act.put, List.setIfInBounds_toArray, List.set_cons_zero, List.set_cons_succ])
              refine takeD 16 89 (v := ?_) rfl rfl (by kernel_rfl) (by kernel_rfl) (by kernel_rfl) (fun _ _ _ h => h) (Or.inl ⟨by rfl, ?_⟩) (by assumption) ?_
              rotate_left
              · intro w1 hSw; obtain ⟨hcS, hfS⟩ := bcell hSw; go_simp; (try with_reducible rfl)
              (try simp only [Act.put, List.setIfInBounds_toArray, List.set_cons_zero, List.set_cons_succ])
              refine takeD 17 90 (v := ?_) rfl rfl (by kernel_rfl) (by kernel_rfl) (by kernel_rfl) (fun _ _ _ h => h) (Or.inl ⟨by rfl, ?_⟩) (by assumption) ?_
              rotate_left
              · intro w1 hSw; obtain ⟨hcS, hfS⟩ := bcell hSw; go_simp; (try with_reducible rfl)
              (try simp only [Act.put, List.setIfInBounds_toArray, List.set_cons_zero, List.set_cons_succ])
              refine takeD 18 91 (v := ?_) rfl rfl (by kernel_rfl) (by kernel_rfl) (by kernel_rfl) (fun _ _ _ h => h) (Or.inl ⟨by rfl, ?_⟩) (by assumption) ?_
              rotate_left
              · intro w1 hSw; obtain ⟨hcS, hfS⟩ := bcell hSw; go_simp; (try with_reducible rfl)
              (try simp only [Act.put, List.setIfInBounds_toArray, List.set_cons_zero, List.set_cons_succ])
              refine takeD 19 92 (v := ?_) rfl rfl (by kernel_rfl) (by kernel_rfl) (by kernel_rfl) (fun _ _ _ h => h) (Or.inl ⟨by rfl, ?_⟩) (by assumption) ?_
              rotate_left
              · intro w1 hSw; obtain ⟨hcS, hfS⟩ := bcell hSw; go_simp; (try with_reducible rfl)
              (try simp only [Act.put, List.setIfInBounds_toArray, List.set_cons_zero, List.set_cons_succ])
              refine wpAnyH_ready (rs := [20]) (by kernel_rfl) (by simp) ?_
              refine AllReadyH.cons rfl (fun K hK => ?_) AllReadyH.nil
              go_simp
              refine (wpFirst z y _).mono ?_
              rw [HLT.out]
              rintro e w9 ⟨rfl, hb⟩
              refine hK.out _ _ (Below.and hq hb) (fun hq2 => ?_)
              clear hK K
              (try simp only [Act.put, List.setIfInBounds_toArray, List.set_cons_zero, List.set_cons_succ])
              refine takeD 21 94 (v := ?_) rfl rfl (by kernel_rfl) (by kernel_rfl) (by kernel_rfl) (fun _ _ _ h => h) (Or.inl ⟨by rfl, ?_⟩) (by assumption) ?_
              rotate_left
              · intro w1 hSw; obtain ⟨hcS, hfS⟩ := bcell hSw; go_simp; (try with_reducible rfl)
              (try simp only [Act.put, List.setIfInBounds_toArray, List.set_cons_zero, List.set_cons_succ])
              refine takeD 22 95 (v := ?_) rfl rfl (by kernel_rfl) (by kernel_rfl) (by kernel_rfl) (fun _ _ _ h => h) (Or.inl ⟨by rfl, ?_⟩) (by assumption) ?_
              rotate_left
              · intro w1 hSw; obtain ⟨hcS, hfS⟩ := bcell hSw; go_simp; (try with_reducible rfl)
              (try simp only [Act.put, List.setIfInBounds_toArray, List.set_cons_zero, List.set_cons_succ])
              refine takeD 23 96 (v := ?_) rfl rfl (by kernel_rfl) (by kernel_rfl) (by kernel_rfl) (fun _ _ _ h => h) (Or.inl ⟨by rfl, ?_⟩) (by assumption) ?_
              rotate_left
              · intro w1 hSw; obtain ⟨hcS, hfS⟩ := bcell hSw; go_simp; (try with_reducible rfl)
              (try simp only [Act.put, List.setIfInBounds_toArray, List.set_cons_zero, List.set_cons_succ])
              refine wpAnyH_done (by kernel_rfl) ?_ _
              have hb := hq2
              have HB9 := Lib.hid (Below.and hB.out hb)
              clear hb y0 y1 y2 z0 z1 z2 ngt hgw
              go_wp2
              go_roundw
              case rel => exact ⟨m + 1 + 1, by omega, by go_num, HB9.out⟩
              case measure => (simp [intOf]; try omega)
          · have i1 : ¬ (j : Int) < (D.length : Int) := by omega
            obtain rfl : j = D.length := by omega
            clear HLE HA hlt hj
            go_wp2_with (fail)
            refine (implQueueOk _ _ _ _ (by omega) OX.out.rdT).mono ?_
            rw [HOR.out]
            rintro e w8 ⟨rfl, hb⟩
            replace Z := Lib.hid (Below.and Z.out hb)
            replace OQ := Lib.hid (OQ.out.below hb)
            replace OX := Lib.hid (OX.out.below hb)
            replace OD := Lib.hid (OD.out.below hb)
            replace OW := Lib.hid (OW.out.below hb)
            replace OV := Lib.hid (OV.out.below hb)
            clear hb
            have e9 : ((R.length : Int) + (D.length : Int) == (L.length : Int)) = true := by have := HPL.out; simp; omega
            go_wp2
            go_light
            go_ret
            exact ⟨rfl, Z.out⟩

end Go.Proofs.Ytgnemgnhjallhaa
