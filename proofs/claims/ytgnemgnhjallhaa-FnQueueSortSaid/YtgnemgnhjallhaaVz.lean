/- However things are added, they come the same: the law. -/
import Derived.Test.YtgnemgnhjallhaaVy
namespace Go.Proofs.Ytgnemgnhjallhaa
open Go.ChangeShapes Go.WideShapes Go.ChangeAt Go.RowKit
set_option linter.unusedVariables false
set_option linter.unusedSimpArgs false

theorem sortQ_all {L : List Tm} (h : (sortQ L).length = L.length) : ascT (sortQ L) ∧ sortQ L.reverse = sortQ L ∧ sortQ (sortQ L) = sortQ L := by
  rcases hs : sortS L [] with _ | q
  · obtain ⟨h1, h2⟩ := sortQ_none hs
    rw [h1] at h
    simp at h
    omega
  · obtain ⟨a, b, c, d⟩ := sortQ_facts hs
    exact ⟨c, sortQ_perm hs (List.reverse_perm L), sortQ_perm hs d⟩
theorem sortQ_not {L : List Tm} (h : (sortQ L).length ≠ L.length) : sortQ L = [] := by
  rcases hs : sortS L [] with _ | q
  · exact (sortQ_none hs).1
  · obtain ⟨a, b, c, d⟩ := sortQ_facts hs
    exact absurd d.length_eq h

set_option maxRecDepth 100000 in
set_option maxHeartbeats 8000000 in
theorem lawQueueSort (A : Option Addr) (c n : Nat) (w : World) (hn : n ≤ maxLen) (hc : n ≤ c) (hb : InB w A n) :
    Calls Try.prog 6 #[.slice A n c] w fun e w' => e = .returned (.bool true) ∧ Below w.heap.size w w' := by
  obtain ⟨I, hi, hz0, hz1, hz2⟩ := parts_ofH infoTimed
  have I1 := Lib.hid hi
  have I2 := Lib.hid hz0
  have I3 := Lib.hid hz1
  have I4 := Lib.hid hz2
  clear hi hz0 hz1 hz2
  have HB := Lib.hid hb
  clear hb
  go_enter Try.func6, Try.ntmps6
  by_cases h : n > 1048576
  · go_wp2
    go_light
    go_ret
    exact ⟨rfl, Below.refl _ _⟩
  go_wp2_with (fail)
  refine (drawQueueSort (by omega) hc HB.out).mono ?_
  rintro e w1 ⟨L, B, d, rfl, hl, oo, hb⟩
  have OQ := Lib.hid oo
  have Z := Lib.hid hb
  clear hb HB h oo
  obtain ⟨R, hY⟩ : ∃ Y, sortQ L = Y := ⟨_, rfl⟩
  have HY := Lib.hid hY
  have hrl : R.length ≤ L.length := by rw [← hY]; exact sortQ_len L
  clear hY
  go_wp2_with (fail)
  refine (implQueueSort _ _ L _ (by omega) OQ.out.rdT).mono ?_
  rw [HY.out]
  rintro e w2 ⟨AOX, aOX, rfl, o2, hb⟩
  have OX := Lib.hid o2
  replace Z := Lib.hid (Below.and Z.out hb)
  replace OQ := Lib.hid (OQ.out.below hb)
  clear o2 hb
  go_wp2_with (fail)
  refine (specQueueSort _ _ L _ (by omega) OQ.out.rdT).mono ?_
  rw [HY.out]
  rintro e w3 ⟨AOW, aOW, rfl, o2, hb⟩
  have OW := Lib.hid o2
  replace Z := Lib.hid (Below.and Z.out hb)
  replace OQ := Lib.hid (OQ.out.below hb)
  replace OX := Lib.hid (OX.out.below hb)
  clear o2 hb
  go_wp2_with (fail)
  refine (wpTimed_rd _ _ _ _ _ _ (by omega) OX.out.rd OW.out.rd).mono ?_
  rintro e w4 ⟨rfl, hb⟩
  replace Z := Lib.hid (Below.and Z.out hb)
  replace OQ := Lib.hid (OQ.out.below hb)
  replace OX := Lib.hid (OX.out.below hb)
  clear hb
  clear OW
  by_cases hne : R.length ≠ L.length
  · have HE := Lib.hid (show R = [] by rw [← HY.out]; exact sortQ_not (by rw [HY.out]; exact hne))
    have d1 : ((R.length : Int) != (L.length : Int)) = true := by simp; omega
    have HR0 := Lib.hid (show R.length = 0 by rw [HE.out]; rfl)
    go_wp2_with (fail)
    refine (specQueueSort _ _ L _ (by omega) OQ.out.rdT).mono ?_
    rw [HY.out]
    rintro e w5 ⟨AOW, aOW, rfl, o2, hb⟩
    have OW := Lib.hid o2
    replace Z := Lib.hid (Below.and Z.out hb)
    replace OQ := Lib.hid (OQ.out.below hb)
    replace OX := Lib.hid (OX.out.below hb)
    clear o2 hb
    go_wp2_with (fail)
    refine (wpTimed_rd _ _ _ _ _ _ (by omega) OX.out.rd OW.out.rd).mono ?_
    rintro e w6 ⟨rfl, hb⟩
    replace Z := Lib.hid (Below.and Z.out hb)
    replace OQ := Lib.hid (OQ.out.below hb)
    replace OX := Lib.hid (OX.out.below hb)
    clear hb
    have d2 : ((R.length : Int) == 0) = true := by rw [HR0.out]; rfl
    go_wp2
    go_light
    go_ret
    exact ⟨rfl, Z.out⟩
  have hlen : R.length = L.length := by omega
  have HSA := Lib.hid (sortQ_all (L := L) (by rw [HY.out]; exact hlen))
  rw [HY.out] at HSA
  have HLR := Lib.hid hlen
  have d1 : ((R.length : Int) != (L.length : Int)) = false := by simp; omega
  clear hne hlen hrl
  have HW4 := Lib.hid Z.out.size
  have HQB := Lib.hid (fun k hk => (OQ.out.lt k hk).2)
  have HXB := Lib.hid (fun k hk => (OX.out.lt k hk).2)
  have hba : Below w4.heap.size w4 (w4.alloc (.cells #[] 25)) := (Below.refl _ _).alloc (Nat.le_refl _) _
  have OT : Hid (OwT (w4.alloc (.cells #[] 25)) w4.heap.size (some ⟨w4.heap.size, 0, none⟩) 0 []) := own_nil_newH w4 25 3 rfl
  have LB := Lib.hid hba.size
  replace Z := Lib.hid (Below.and Z.out hba)
  replace OQ := Lib.hid (OQ.out.below hba)
  replace OX := Lib.hid (OX.out.below hba)
  clear hba
  go_upto_region 8 with (fail)
  obtain ⟨lo, hlo⟩ : ∃ X, X = w4.heap.size := ⟨_, rfl⟩
  obtain ⟨w5, hw5⟩ : ∃ X, X = w4.alloc (.cells #[] 25) := ⟨_, rfl⟩
  obtain ⟨B0, hB0⟩ : ∃ X : Option Addr, X = some ⟨w4.heap.size, 0, none⟩ := ⟨_, rfl⟩
  have HLO := Lib.hid (show w.heap.size ≤ lo by rw [hlo]; exact HW4.out)
  have QI := Lib.hid (show OwI _ w.heap.size lo B d L from ⟨OQ.out, by rw [hlo]; exact HQB.out⟩)
  have XI := Lib.hid (show OwI _ w1.heap.size lo AOX aOX R from ⟨OX.out, by rw [hlo]; exact HXB.out⟩)
  clear OQ OX
  rw [← hw5] at OT LB Z QI XI ⊢
  rw [← hB0] at OT ⊢
  rw [← hlo] at OT LB
  clear hw5 hlo hB0 HQB HXB HW4 d1
  have wl : IntKind.i64.wrap ((L.length : Int) - 1) = (L.length : Int) - 1 := IntWalk.i64_in _ (by omega)
  go_wp2
  clear wl
  go_loopw [5, 6] (fun u v wr => ∃ (m : Nat) (T : List Tm) (C : Option Addr) (c9 : Nat), u = .slice C T.length c9 ∧ v = .int .i64 ((m : Int) - 1) ∧ m ≤ L.length ∧ T.length + m = L.length ∧ Hid (T = (L.drop m).reverse) ∧ Hid (OwT wr lo C c9 T) ∧ Hid (OwI wr w.heap.size lo B d L) ∧ Hid (OwI wr w1.heap.size lo AOX aOX R) ∧ Hid (lo ≤ wr.heap.size) ∧ Hid (Below w.heap.size w wr)) (fun _ v _ => (intOf v + 1).toNat)
  case atStart => exact ⟨L.length, [], B0, 0, rfl, rfl, Nat.le_refl _, by simp, by simp [Hid], OT.out, QI.out, XI.out, LB.out, Z.out⟩
  case round =>
    clear OT QI XI LB Z
    obtain ⟨m, T, C, c9, rfl, rfl, hm, hT, HT, OT, QI, XI, LB, Z⟩ := hrel
    rcases m with _ | k
    · have i0 : ¬ (0 : Int) ≤ (((0 : Nat) : Int) - 1) := by omega
      have HTE := Lib.hid (show T = L.reverse by rw [HT.out]; rfl)
      have HTL := Lib.hid (show T.length ≤ 25 by omega)
      have HRL25 := Lib.hid (show R.length ≤ 25 by have := HLR.out; omega)
      have OQ := QI
      clear HT hT hm
      obtain ⟨wk, hwk⟩ : ∃ X, X = wr := ⟨_, rfl⟩
      rw [← hwk] at OT QI XI Z ⊢
      clear hwk LB OQ
      go_wp2
      go_loopw [7] (fun v wr => ∃ m : Nat, v = .int .i64 ((m : Int) + 1) ∧ m ≤ R.length ∧ Hid (Below wk.heap.size wk wr)) (fun v _ => R.length + 1 - (intOf v).toNat)
      case atStart => exact ⟨0, rfl, Nat.zero_le _, Below.refl _ _⟩
      case round =>
        obtain ⟨m, rfl, hm, hB⟩ := hrel
        replace OT := Lib.hid (OT.out.below hB.out)
        replace XI := Lib.hid (XI.out.below hB.out)
        replace Z := Lib.hid (Below.and Z.out hB.out)
        by_cases hlt : m + 1 < R.length
        · obtain ⟨g, hgo, _, hgw⟩ := own_g XI.out.own (by omega)
          subst hgo
          obtain ⟨y, hy⟩ : ∃ y, at' R (m + 1) = y := ⟨_, rfl⟩
          obtain ⟨z, hz⟩ : ∃ z, at' R m = z := ⟨_, rfl⟩
          obtain ⟨y0, y1, y2⟩ := ownC XI.out.own (m + 1) hlt y hy
          obtain ⟨z0, z1, z2⟩ := ownC XI.out.own m (by omega) z hz
          have HLT := Lib.hid (show lessT z y = true by
            rw [← hz, ← hy, at_eq R m (by omega), at_eq R (m + 1) hlt]
            exact List.pairwise_iff_getElem.1 HSA.out.1 m (m + 1) (by omega) hlt (by omega))
          have m1 : (0 : Int) ≤ (m : Int) + 1 := by omega
          have m2 : (m : Int) + 1 < (R.length : Int) := by omega
          have z3 : (0 : Int) ≤ (m : Int) := by omega
          have z4 : (m : Int) < (R.length : Int) := by omega
          have hr25 := HRL25.out
          have w3 : IntKind.i64.wrap (m : Int) = (m : Int) := wrap_nat m (by omega)
          clear hz hy
          go_upto_region 15 with (fail)
          refine wp_region_held_drew (S := fun w1 => Below wr.heap.size wr w1) (by kernel_rfl) ((Below.refl _ _).drew) (fun hq => ?_)
          refine takeD 0 57 (v := ?_) rfl rfl (by kernel_rfl) (by kernel_rfl) (by kernel_rfl) (fun _ _ _ h => h) (Or.inl ⟨by rfl, ?_⟩) (by assumption) ?_
          rotate_left
          · intro w1 hSw; obtain ⟨hcS, hfS⟩ := bcell hSw; go_simp; (try with_reducible rfl)
          (try simp only [Act.put, List.setIfInBounds_toArray, List.set_cons_zero, List.set_cons_succ])
          refine takeD 1 58 (v := ?_) rfl rfl (by kernel_rfl) (by kernel_rfl) (by kernel_rfl) (fun _ _ _ h => h) (Or.inl ⟨by rfl, ?_⟩) (by assumption) ?_
          rotate_left
          · intro w1 hSw; obtain ⟨hcS, hfS⟩ := bcell hSw; go_simp; (try with_reducible rfl)
          (try simp only [Act.put, List.setIfInBounds_toArray, List.set_cons_zero, List.set_cons_succ])
          refine takeD 2 59 (v := ?_) rfl rfl (by kernel_rfl) (by kernel_rfl) (by kernel_rfl) (fun _ _ _ h => h) (Or.inl ⟨by rfl, ?_⟩) (by assumption) ?_
          rotate_left
          · intro w1 hSw; obtain ⟨hcS, hfS⟩ := bcell hSw; go_simp; (try with_reducible rfl)
          (try simp only [Act.put, List.setIfInBounds_toArray, List.set_cons_zero, List.set_cons_succ])
          refine takeD 3 60 (v := ?_) rfl rfl (by kernel_rfl) (by kernel_rfl) (by kernel_rfl) (fun _ _ _ h => h) (Or.inl ⟨by rfl, ?_⟩) (by assumption) ?_
          rotate_left
          · intro w1 hSw; obtain ⟨hcS, hfS⟩ := bcell hSw; go_simp; (try with_reducible rfl)
          (try simp only [Act.put, List.setIfInBounds_toArray, List.set_cons_zero, List.set_cons_succ])
          refine takeD 4 61 (v := ?_) rfl rfl (by kernel_rfl) (by kernel_rfl) (by kernel_rfl) (fun _ _ _ h => h) (Or.inl ⟨by rfl, ?_⟩) (by assumption) ?_
          rotate_left
          · intro w1 hSw; obtain ⟨hcS, hfS⟩ := bcell hSw; go_simp; (try with_reducible rfl)
          (try simp only [Act.put, List.setIfInBounds_toArray, List.set_cons_zero, List.set_cons_succ])
          refine takeD 5 62 (v := ?_) rfl rfl (by kernel_rfl) (by kernel_rfl) (by kernel_rfl) (fun _ _ _ h => h) (Or.inl ⟨by rfl, ?_⟩) (by assumption) ?_
          rotate_left
          · intro w1 hSw; obtain ⟨hcS, hfS⟩ := bcell hSw; go_simp; (try with_reducible rfl)
          (try simp only [Act.put, List.setIfInBounds_toArray, List.set_cons_zero, List.set_cons_succ])
          refine takeD 6 63 (v := ?_) rfl rfl (by kernel_rfl) (by kernel_rfl) (by kernel_rfl) (fun _ _ _ h => h) (Or.inl ⟨by rfl, ?_⟩) (by assumption) ?_
          rotate_left
          · intro w1 hSw; obtain ⟨hcS, hfS⟩ := bcell hSw; go_simp; (try with_reducible rfl)
          (try simp only [Act.put, List.setIfInBounds_toArray, List.set_cons_zero, List.set_cons_succ])
          refine takeD 7 64 (v := ?_) rfl rfl (by kernel_rfl) (by kernel_rfl) (by kernel_rfl) (fun _ _ _ h => h) (Or.inl ⟨by rfl, ?_⟩) (by assumption) ?_
          rotate_left
          · intro w1 hSw; obtain ⟨hcS, hfS⟩ := bcell hSw; go_simp; (try with_reducible rfl)
          (try simp only [Act.put, List.setIfInBounds_toArray, List.set_cons_zero, List.set_cons_succ])
          refine takeD 8 65 (v := ?_) rfl rfl (by kernel_rfl) (by kernel_rfl) (by kernel_rfl) (fun _ _ _ h => h) (Or.inl ⟨by rfl, ?_⟩) (by assumption) ?_
          rotate_left
          · intro w1 hSw; obtain ⟨hcS, hfS⟩ := bcell hSw; go_simp; (try with_reducible rfl)
          (try simp only [Act.put, List.setIfInBounds_toArray, List.set_cons_zero, List.set_cons_succ])
          refine wpAnyH_ready (rs := [9]) (by kernel_rfl) (by simp) ?_
          refine AllReadyH.cons rfl (fun K hK => ?_) AllReadyH.nil
          go_simp
          refine (wpFirst z y _).mono ?_
          rw [HLT.out]
          rintro e w9 ⟨rfl, hb⟩
          refine hK.out _ _ (Below.and hq hb) (fun hq2 => ?_)
          clear hK K
          (try simp only [Act.put, List.setIfInBounds_toArray, List.set_cons_zero, List.set_cons_succ])
          refine takeD 10 67 (v := ?_) rfl rfl (by kernel_rfl) (by kernel_rfl) (by kernel_rfl) (fun _ _ _ h => h) (Or.inl ⟨by rfl, ?_⟩) (by assumption) ?_
          rotate_left
          · intro w1 hSw; obtain ⟨hcS, hfS⟩ := bcell hSw; go_simp; (try with_reducible rfl)
          (try simp only [Act.put, List.setIfInBounds_toArray, List.set_cons_zero, List.set_cons_succ])
          refine wpAnyH_done (by kernel_rfl) ?_ _
          have hb := hq2
          have HB9 := Lib.hid (Below.and hB.out hb)
          clear hb y0 y1 y2 z0 z1 z2 hgw
          go_wp2
          go_roundw
          case rel => exact ⟨m + 1, by go_num, by omega, HB9.out⟩
          case measure => (simp [intOf]; try omega)
        · have i1 : ¬ (m : Int) + 1 < (R.length : Int) := by omega
          have h25 := HTL.out
          have r25 := HRL25.out
          have OX := Lib.hid XI.out.own
          have HT9 := Lib.hid (show sortQ T = R by rw [HTE.out]; exact HSA.out.2.1)
          have HR9 := Lib.hid HSA.out.2.2
          clear hB hm hlt XI HSA HTE
          go_wp2_with (fail)
          refine (implQueueSort _ _ T _ (by omega) OT.out.rdT).mono ?_
          rw [HT9.out]
          rintro e wA ⟨AOY, aOY, rfl, o2, hb⟩
          have OY := Lib.hid o2
          replace Z := Lib.hid (Below.and Z.out hb)
          replace OX := Lib.hid (OX.out.below hb)
          clear o2 hb
          go_wp2_with (fail)
          refine (wpTimed_rd _ _ _ _ _ _ (by omega) OY.out.rd OX.out.rd).mono ?_
          rintro e wB ⟨rfl, hb⟩
          replace Z := Lib.hid (Below.and Z.out hb)
          replace OX := Lib.hid (OX.out.below hb)
          clear hb
          go_wp2_with (fail)
          refine (implQueueSort _ _ R _ (by omega) OX.out.rdT).mono ?_
          rw [HR9.out]
          rintro e wC ⟨AOZ, aOZ, rfl, o2, hb⟩
          have OZ := Lib.hid o2
          replace Z := Lib.hid (Below.and Z.out hb)
          replace OX := Lib.hid (OX.out.below hb)
          clear o2 hb
          go_wp2_with (fail)
          refine (wpTimed_rd _ _ _ _ _ _ (by omega) OZ.out.rd OX.out.rd).mono ?_
          rintro e wD ⟨rfl, hb⟩
          replace Z := Lib.hid (Below.and Z.out hb)
          replace OX := Lib.hid (OX.out.below hb)
          clear hb
          go_wp2
          go_light
          go_ret
          exact ⟨rfl, Z.out⟩
    · have i0 : (0 : Int) ≤ (k : Int) := by omega
      have i1 : (k : Int) < (L.length : Int) := by omega
      have e0 : ((k + 1 : Nat) : Int) - 1 = (k : Int) := by omega
      rw [e0]
      clear e0
      obtain ⟨g, hgo, _, hgw⟩ := own_g QI.out.own (by omega)
      subst hgo
      obtain ⟨x, hx⟩ : ∃ x, at' L k = x := ⟨_, rfl⟩
      obtain ⟨x0, x1, x2⟩ := ownC QI.out.own k (by omega) x hx
      have HT2 := Lib.hid (show T ++ [x] = (L.drop k).reverse by
        rw [HT.out, List.drop_eq_getElem_cons (show k < L.length by omega), List.reverse_cons, ← hx, at_eq L k (by omega)])
      have lx := hgw
      have hba : Below wr.heap.size wr (wr.alloc (.cells (tmCs x) 25)) := (Below.refl _ _).alloc (Nat.le_refl _) _
      have HRw := Lib.hid (tm_row wr 25 x)
      replace OT := Lib.hid (OT.out.below hba)
      replace QI := Lib.hid (QI.out.below hba)
      replace XI := Lib.hid (XI.out.below hba)
      replace Z := Lib.hid (Below.and Z.out hba)
      replace LB := Lib.hid (Nat.le_trans LB.out hba.size)
      clear hba hx HT hgw
      go_wp2_with (at_builtin; go_loud (refine list_app (f := Tm.cells) (fun _ => rfl) rfl _ _ 23 rfl lo 25 I (.agg #[.int .i64 0, .int .i64 0, .int .i64 0]) 24 Try.underlying23 I1.out I2.out I3.out I4.out rfl (by decide) _ T.length (T.flatMap Tm.cells) rfl OT.out _ _ 1 [x] rfl rfl HRw.out (fun h => by cases h) (tm_one _) (by unfold maxLen; omega) (by omega) LB.out ?_))
      intro v9 w9 ho hg hp9
      have hge := OT.out.lt
      replace QI := Lib.hid (QI.out.grown hg (fun k hk => Or.inr (hge k hk).1))
      replace XI := Lib.hid (XI.out.grown hg (fun k hk => Or.inr (hge k hk).1))
      replace Z := Lib.hid (Z.out.grown hg Z.out.size (fun k hk => Nat.le_trans HLO.out (hge k hk).1))
      replace LB := Lib.hid (Nat.le_trans LB.out hg.size)
      obtain ⟨B5, b5, rfl, oa⟩ := OwT.push ho
      have O9 := Lib.hid oa
      have hlen : (T ++ [x]).length = T.length + 1 := by simp
      obtain ⟨T2, hT2⟩ : ∃ X, X = T ++ [x] := ⟨_, rfl⟩
      rw [← hT2] at O9 hlen HT2 ⊢
      have hl5 : T2.length + k = L.length := by omega
      clear ho hg hp9 hge oa HRw OT hT2 hlen x0 x1 x2 lx
      have w8 : IntKind.i64.wrap ((k : Int) - 1) = (k : Int) - 1 := IntWalk.i64_in _ (by omega)
      go_wp2
      go_roundw
      case rel => exact ⟨k, T2, B5, b5, rfl, by first | rfl | go_num, by omega, hl5, HT2.out, O9.out, QI.out, XI.out, LB.out, Z.out⟩
      case measure => (simp [intOf]; try omega)

end Go.Proofs.Ytgnemgnhjallhaa
