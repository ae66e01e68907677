/- The first that comes is ahead of all others: the law. -/
import Derived.Test.YtgnemgnhjallhaaVv
namespace Go.Proofs.Ytgnemgnhjallhaa
open Go.ChangeShapes Go.WideShapes Go.ChangeAt Go.RowKit
set_option linter.unusedVariables false
set_option linter.unusedSimpArgs false

theorem nextQ_iff {L R : List Tm} {x : Tm} (h : nextQ L = ((R, x), true)) : OkQ L ∧ 0 < L.length ∧ R = nextT L ∧ x = at' L 0 := by
  unfold nextQ at h
  split at h
  · rename_i h1
    simp only [Prod.mk.injEq, and_true] at h
    exact ⟨okQ_iff.1 h1.1, h1.2, h.1.symm, h.2.symm⟩
  · simp at h

set_option maxRecDepth 100000 in
set_option maxHeartbeats 8000000 in
theorem lawQueueNext (A : Option Addr) (c n : Nat) (w : World) (hn : n ≤ maxLen) (hc : n ≤ c) (hb : InB w A n) :
    Calls Try.prog 4 #[.slice A n c] w fun e w' => e = .returned (.bool true) ∧ Below w.heap.size w w' := by
  have HB := Lib.hid hb
  clear hb
  go_enter Try.func4, Try.ntmps4
  by_cases h : n > 1048576
  · go_wp2
    go_light
    go_ret
    exact ⟨rfl, Below.refl _ _⟩
  go_wp2_with (fail)
  refine (drawQueueNext (by omega) hc HB.out).mono ?_
  rintro e w1 ⟨L, B, d, rfl, hl, oo, hb⟩
  have OQ := Lib.hid oo
  have Z := Lib.hid hb
  clear hb HB h oo
  obtain ⟨⟨⟨R, x⟩, u⟩, hY⟩ : ∃ Y, nextQ L = Y := ⟨_, rfl⟩
  have HY := Lib.hid hY
  have hrl : R.length ≤ L.length := by have := nextQ_len L; rw [hY] at this; exact this
  clear hY
  go_wp2_with (fail)
  refine (implQueueNext B d L _ (by omega) OQ.out.rdT).mono ?_
  rw [HY.out]
  rintro e w2 ⟨AOX, aOX, rfl, o2, hb⟩
  have OX := Lib.hid o2
  replace Z := Lib.hid (Below.and Z.out hb)
  replace OQ := Lib.hid (OQ.out.below hb)
  clear o2 hb
  have hba : Below w2.heap.size w2 (w2.alloc (.cells (tmCs x) 25)) := (Below.refl _ _).alloc (Nat.le_refl _) _
  have K5 : Hid (Bkk (w2.alloc (.cells (tmCs x) 25)) w2.heap.size 25 (tmCs x)) := Bkk.new _
  replace Z := Lib.hid (Below.and Z.out hba)
  replace OQ := Lib.hid (OQ.out.below hba)
  replace OX := Lib.hid (OX.out.below hba)
  clear hba
  go_upto_region 5 with (fail)
  obtain ⟨b5, hb5⟩ : ∃ X, X = w2.heap.size := ⟨_, rfl⟩
  obtain ⟨w3, hw3⟩ : ∃ X, X = (w2.alloc (.cells (tmCs x) 25)) := ⟨_, rfl⟩
  rw [← hw3] at K5 Z OQ OX ⊢
  rw [← hb5] at K5 ⊢
  clear hb5 hw3
  go_wp2_with (fail)
  refine (specQueueNext B d L _ (by omega) OQ.out.rdT).mono ?_
  rw [HY.out]
  rintro e w4 ⟨AOW, aOW, rfl, o2, hb⟩
  have OW := Lib.hid o2
  replace Z := Lib.hid (Below.and Z.out hb)
  replace OQ := Lib.hid (OQ.out.below hb)
  replace OX := Lib.hid (OX.out.below hb)
  replace K5 := Lib.hid (K5.out.below hb)
  clear o2 hb
  have hba : Below w4.heap.size w4 (w4.alloc (.cells (tmCs x) 25)) := (Below.refl _ _).alloc (Nat.le_refl _) _
  have K8 : Hid (Bkk (w4.alloc (.cells (tmCs x) 25)) w4.heap.size 25 (tmCs x)) := Bkk.new _
  replace Z := Lib.hid (Below.and Z.out hba)
  replace OQ := Lib.hid (OQ.out.below hba)
  replace OX := Lib.hid (OX.out.below hba)
  replace K5 := Lib.hid (K5.out.below hba)
  replace OW := Lib.hid (OW.out.below hba)
  clear hba
  go_upto_region 6 with (fail)
  obtain ⟨b8, hb8⟩ : ∃ X, X = w4.heap.size := ⟨_, rfl⟩
  obtain ⟨w5, hw5⟩ : ∃ X, X = (w4.alloc (.cells (tmCs x) 25)) := ⟨_, rfl⟩
  rw [← hw5] at K8 Z OQ OX K5 OW ⊢
  rw [← hb8] at K8 ⊢
  clear hb8 hw5
  have nu : (u != u) = false := by simp
  have eu : (u == u) = true := by simp
  have hn1 : ∀ W, (binOp .neq 25 (.agg #[.int .i64 x.a, .int .i64 x.f, .int .i64 x.n]) (.agg #[.int .i64 x.a, .int .i64 x.f, .int .i64 x.n])).run Try.prog W = .ok (.bool false) W := fun W => by have := neqTimed x x W; simpa using this
  have he1 : ∀ W, (binOp .eql 25 (.agg #[.int .i64 x.a, .int .i64 x.f, .int .i64 x.n]) (.agg #[.int .i64 x.a, .int .i64 x.f, .int .i64 x.n])).run Try.prog W = .ok (.bool true) W := fun W => by have := eqlTimed x x W; simpa using this
  have p0 : w5.cell? ⟨b5, 0, none⟩ = some (.int .i64 x.a) := K5.out.cell 0
  have p1 : w5.cell? ⟨b5, 1, none⟩ = some (.int .i64 x.f) := K5.out.cell 1
  have p2 : w5.cell? ⟨b5, 2, none⟩ = some (.int .i64 x.n) := K5.out.cell 2
  have lp := K5.out.lt
  have q0 : w5.cell? ⟨b8, 0, none⟩ = some (.int .i64 x.a) := K8.out.cell 0
  have q1 : w5.cell? ⟨b8, 1, none⟩ = some (.int .i64 x.f) := K8.out.cell 1
  have q2 : w5.cell? ⟨b8, 2, none⟩ = some (.int .i64 x.n) := K8.out.cell 2
  have lq := K8.out.lt
  go_wp2_with (fail)
  refine (wpTimed_rd _ _ _ _ _ _ (by omega) OX.out.rd OW.out.rd).mono ?_
  rintro e w6 ⟨rfl, hb⟩
  replace Z := Lib.hid (Below.and Z.out hb)
  replace OQ := Lib.hid (OQ.out.below hb)
  replace OX := Lib.hid (OX.out.below hb)
  replace OW := Lib.hid (OW.out.below hb)
  replace K5 := Lib.hid (K5.out.below hb)
  replace K8 := Lib.hid (K8.out.below hb)
  clear hb
  clear p0 p1 p2 lp
  clear q0 q1 q2 lq
  rcases u with _ | _
  · have p0 : w6.cell? ⟨b5, 0, none⟩ = some (.int .i64 x.a) := K5.out.cell 0
    have p1 : w6.cell? ⟨b5, 1, none⟩ = some (.int .i64 x.f) := K5.out.cell 1
    have p2 : w6.cell? ⟨b5, 2, none⟩ = some (.int .i64 x.n) := K5.out.cell 2
    have lp := K5.out.lt
    have q0 : w6.cell? ⟨b8, 0, none⟩ = some (.int .i64 x.a) := K8.out.cell 0
    have q1 : w6.cell? ⟨b8, 1, none⟩ = some (.int .i64 x.f) := K8.out.cell 1
    have q2 : w6.cell? ⟨b8, 2, none⟩ = some (.int .i64 x.n) := K8.out.cell 2
    have lq := K8.out.lt
    go_wp2_with (fail)
    refine (wpTimed_rd _ _ _ _ _ _ (by omega) OX.out.rd OW.out.rd).mono ?_
    rintro e w7 ⟨rfl, hb⟩
    replace Z := Lib.hid (Below.and Z.out hb)
    replace OQ := Lib.hid (OQ.out.below hb)
    replace OX := Lib.hid (OX.out.below hb)
    replace OW := Lib.hid (OW.out.below hb)
    replace K5 := Lib.hid (K5.out.below hb)
    replace K8 := Lib.hid (K8.out.below hb)
    clear hb
    go_wp2
    go_light
    go_ret
    exact ⟨rfl, Z.out⟩
  · obtain ⟨hk, h0, hR, hx⟩ := nextQ_iff HY.out
    have HFL := Lib.hid (show ∀ y ∈ R, lessT x y = true by rw [hR, hx]; exact first_less hk h0)
    have HOR := Lib.hid (show okQ R = true by rw [hR]; exact okQ_iff.2 (hk.next h0))
    have HRL := Lib.hid (show L.length = R.length + 1 by rw [hR, nextT_len]; omega)
    have HAD := Lib.hid (show addQ R x = (addT R x, true) by rw [hR, hx]; exact back_add hk h0)
    have HB0 := Lib.hid (show at' (addT R x) 0 = x by rw [hR, hx]; exact back_first (hk.next h0).heap (first_less hk h0))
    clear hk h0 hR hx HY
    clear hn1
    go_wp2
    go_loopw [10] (fun v wr => ∃ j : Nat, j ≤ R.length ∧ v = .int .i64 (j : Int) ∧ Hid (Below w6.heap.size w6 wr)) (fun v _ => R.length - (intOf v).toNat)
    case atStart => exact ⟨0, Nat.zero_le _, rfl, Below.refl _ _⟩
    case round =>
      obtain ⟨j, hj, rfl, hB⟩ := hrel
      replace Z := Lib.hid (Below.and Z.out hB.out)
      replace OQ := Lib.hid (OQ.out.below hB.out)
      replace OX := Lib.hid (OX.out.below hB.out)
      replace OW := Lib.hid (OW.out.below hB.out)
      replace K5 := Lib.hid (K5.out.below hB.out)
      replace K8 := Lib.hid (K8.out.below hB.out)
      by_cases hlt : j < R.length
      · obtain ⟨g, o, hgo, yc⟩ := OX.out.rd j hlt
        subst hgo
        have HLT := Lib.hid (HFL.out _ (List.getElem_mem hlt))
        generalize R[j] = y at yc HLT
        have y0 : wr.cell? ⟨g, o + j * 3, none⟩ = some (.int .i64 y.a) := yc 0 _ rfl
        have y1 : wr.cell? ⟨g, o + j * 3 + 1, none⟩ = some (.int .i64 y.f) := yc 1 _ rfl
        have y2 : wr.cell? ⟨g, o + j * 3 + 2, none⟩ = some (.int .i64 y.n) := yc 2 _ rfl
        clear yc
        have t0 : wr.cell? ⟨b5, 0, none⟩ = some (.int .i64 x.a) := K5.out.cell 0
        have t1 : wr.cell? ⟨b5, 1, none⟩ = some (.int .i64 x.f) := K5.out.cell 1
        have t2 : wr.cell? ⟨b5, 2, none⟩ = some (.int .i64 x.n) := K5.out.cell 2
        have lt := K5.out.lt
        have i0 : (0 : Int) ≤ (j : Int) := by omega
        have i1 : (j : Int) < (R.length : Int) := by omega
        go_wp2_with (fail)
        refine wp_region_still_tail 5 (by kernel_rfl) (by kernel_rfl) ?_
        change wpStill _ _ (World.drew _) (fun a' => wpList _ _ _ _ a' (World.drew _)) _ _
        simp only [List.take_succ_cons, List.take_zero, List.drop_succ_cons, List.drop_zero]
        repeat still_step
        refine wpStill_nil ?_
        go_wp2_with (fail)
        refine (wpFirst x y _).mono ?_
        rw [HLT.out]
        rintro e w9 ⟨rfl, hb⟩
        have HB9 := Lib.hid (Below.and hB.out (Below.and (Below.refl _ _).drew hb))
        clear hb y0 y1 y2 HLT
        clear t0 t1 t2 lt
        go_wp2
        go_roundw
        case rel => exact ⟨j + 1, by omega, by go_num, HB9.out⟩
        case measure => (simp [intOf]; try omega)
      · have i1 : ¬ (j : Int) < (R.length : Int) := by omega
        obtain rfl : j = R.length := by omega
        clear hlt
        have t0 : wr.cell? ⟨b5, 0, none⟩ = some (.int .i64 x.a) := K5.out.cell 0
        have t1 : wr.cell? ⟨b5, 1, none⟩ = some (.int .i64 x.f) := K5.out.cell 1
        have t2 : wr.cell? ⟨b5, 2, none⟩ = some (.int .i64 x.n) := K5.out.cell 2
        have lt := K5.out.lt
        go_wp2_with (fail)
        refine (implQueueAdd _ _ R x _ (by omega) OX.out.rdT).mono ?_
        rw [HAD.out]
        rintro e wD ⟨A5, a5, rfl, o2, hb⟩
        have OV := Lib.hid o2
        replace Z := Lib.hid (Below.and Z.out hb)
        replace OQ := Lib.hid (OQ.out.below hb)
        replace OX := Lib.hid (OX.out.below hb)
        replace OW := Lib.hid (OW.out.below hb)
        replace K5 := Lib.hid (K5.out.below hb)
        replace K8 := Lib.hid (K8.out.below hb)
        clear hb o2
        clear t0 t1 t2 lt
        have HVL := Lib.hid (show (addT R x).length = R.length + 1 from addT_len R x)
        obtain ⟨V, hV⟩ : ∃ V, V = addT R x := ⟨_, rfl⟩
        dsimp only
        rw [← hV] at OV HVL HB0 ⊢
        clear hV HAD
        obtain ⟨g5, hA5, _, hg5⟩ := own_g OV.out (by rw [HVL.out]; omega)
        subst hA5
        obtain ⟨v0, v1, v2⟩ := (show wD.cell? ⟨g5, 0, none⟩ = some (.int .i64 x.a) ∧ wD.cell? ⟨g5, 1, none⟩ = some (.int .i64 x.f) ∧ wD.cell? ⟨g5, 2, none⟩ = some (.int .i64 x.n) by simpa using ownC OV.out 0 (by rw [HVL.out]; omega) x HB0.out)
        have t0 : wD.cell? ⟨b5, 0, none⟩ = some (.int .i64 x.a) := K5.out.cell 0
        have t1 : wD.cell? ⟨b5, 1, none⟩ = some (.int .i64 x.f) := K5.out.cell 1
        have t2 : wD.cell? ⟨b5, 2, none⟩ = some (.int .i64 x.n) := K5.out.cell 2
        have lt := K5.out.lt
        rw [HVL.out, HRL.out]
        have i3 : (0 : Int) < (R.length : Int) + 1 := by omega
        have w3 : IntKind.i64.wrap (R.length : Int) = (R.length : Int) := wrap_nat R.length (by omega)
        have e9 : ((R.length : Int) == (R.length : Int)) = true := by simp
        go_upto_region 14 with (fail)
        obtain ⟨wE, hwE⟩ : ∃ X, X = wD := ⟨_, rfl⟩
        rw [← hwE] at OX v0 v1 v2 t0 t1 t2 lt hg5 Z ⊢
        clear hwE
        refine wp_region_held_drew (S := fun w1 => Below wE.heap.size wE w1) (by kernel_rfl) ((Below.refl _ _).drew) (fun hq => ?_)
        refine takeD 0 80 (v := ?_) rfl rfl (by kernel_rfl) (by kernel_rfl) (by kernel_rfl) (fun _ _ _ h => h) (Or.inl ⟨by rfl, ?_⟩) (by assumption) ?_
        rotate_left
        · intro w1 hSw; obtain ⟨hcS, hfS⟩ := bcell hSw; go_simp; (try with_reducible rfl)
        (try simp only [Act.put, List.setIfInBounds_toArray, List.set_cons_zero, List.set_cons_succ])
        refine wpAnyH_ready (rs := [1]) (by kernel_rfl) (by simp) ?_
        refine AllReadyH.cons rfl (fun K hK => ?_) AllReadyH.nil
        go_simp
        refine (implQueueOk _ _ R _ (by omega) (OX.out.below hq).rdT).mono ?_
        rw [HOR.out]
        rintro e wF ⟨rfl, hb⟩
        refine hK.out _ _ (Below.and hq hb) (fun hq2 => ?_)
        clear hK K
        (try simp only [Act.put, List.setIfInBounds_toArray, List.set_cons_zero, List.set_cons_succ])
        refine takeD 2 82 (v := ?_) rfl rfl (by kernel_rfl) (by kernel_rfl) (by kernel_rfl) (fun _ _ _ h => h) (Or.inl ⟨by rfl, ?_⟩) (by assumption) ?_
        rotate_left
        · intro w1 hSw; obtain ⟨hcS, hfS⟩ := bcell hSw; go_simp; (try with_reducible rfl)
        (try simp only [Act.put, List.setIfInBounds_toArray, List.set_cons_zero, List.set_cons_succ])
        refine takeD 3 83 (v := ?_) rfl rfl (by kernel_rfl) (by kernel_rfl) (by kernel_rfl) (fun _ _ _ h => h) (Or.inl ⟨by rfl, ?_⟩) (by assumption) ?_
        rotate_left
        · intro w1 hSw; obtain ⟨hcS, hfS⟩ := bcell hSw; go_simp; (try with_reducible rfl)
        (try simp only [Act.put, List.setIfInBounds_toArray, List.set_cons_zero, List.set_cons_succ])
        refine takeD 4 84 (v := ?_) rfl rfl (by kernel_rfl) (by kernel_rfl) (by kernel_rfl) (fun _ _ _ h => h) (Or.inl ⟨by rfl, ?_⟩) (by assumption) ?_
        rotate_left
        · intro w1 hSw; obtain ⟨hcS, hfS⟩ := bcell hSw; go_simp; (try with_reducible rfl)
        (try simp only [Act.put, List.setIfInBounds_toArray, List.set_cons_zero, List.set_cons_succ])
        refine takeD 5 85 (v := ?_) rfl rfl (by kernel_rfl) (by kernel_rfl) (by kernel_rfl) (fun _ _ _ h => h) (Or.inl ⟨by rfl, ?_⟩) (by assumption) ?_
        rotate_left
        · intro w1 hSw; obtain ⟨hcS, hfS⟩ := bcell hSw; go_simp; (try with_reducible rfl)
        (try simp only [Act.put, List.setIfInBounds_toArray, List.set_cons_zero, List.set_cons_succ])
        refine takeD 6 86 (v := ?_) rfl rfl (by kernel_rfl) (by kernel_rfl) (by kernel_rfl) (fun _ _ _ h => h) (Or.inl ⟨by rfl, ?_⟩) (by assumption) ?_
        rotate_left
        · intro w1 hSw; obtain ⟨hcS, hfS⟩ := bcell hSw; go_simp; (try with_reducible rfl)
        (try simp only [Act.put, List.setIfInBounds_toArray, List.set_cons_zero, List.set_cons_succ])
        refine takeD 7 87 (v := ?_) rfl rfl (by kernel_rfl) (by kernel_rfl) (by kernel_rfl) (fun _ _ _ h => h) (Or.inl ⟨by rfl, ?_⟩) (by assumption) ?_
        rotate_left
        · intro w1 hSw; obtain ⟨hcS, hfS⟩ := bcell hSw; go_simp; (try with_reducible rfl)
        (try simp only [Act.put, List.setIfInBounds_toArray, List.set_cons_zero, List.set_cons_succ])
        refine takeD 8 88 (v := ?_) rfl rfl (by kernel_rfl) (by kernel_rfl) (by kernel_rfl) (fun _ _ _ h => h) (Or.inl ⟨by rfl, ?_⟩) (by assumption) ?_
        rotate_left
        · intro w1 hSw; obtain ⟨hcS, hfS⟩ := bcell hSw; go_simp; (try with_reducible rfl)
        (try simp only [Act.put, List.setIfInBounds_toArray, List.set_cons_zero, List.set_cons_succ])
        refine takeD 9 89 (v := ?_) rfl rfl (by kernel_rfl) (by kernel_rfl) (by kernel_rfl) (fun _ _ _ h => h) (Or.inl ⟨by rfl, ?_⟩) (by assumption) ?_
        rotate_left
        · intro w1 hSw; obtain ⟨hcS, hfS⟩ := bcell hSw; go_simp; (try with_reducible rfl)
        (try simp only [Act.put, List.setIfInBounds_toArray, List.set_cons_zero, List.set_cons_succ])
        refine takeD 10 90 (v := ?_) rfl rfl (by kernel_rfl) (by kernel_rfl) (by kernel_rfl) (fun _ _ _ h => h) (Or.inl ⟨by rfl, ?_⟩) (by assumption) ?_
        rotate_left
        · intro w1 hSw; obtain ⟨hcS, hfS⟩ := bcell hSw; go_simp; (try with_reducible rfl)
        (try simp only [Act.put, List.setIfInBounds_toArray, List.set_cons_zero, List.set_cons_succ])
        refine takeD 11 91 (v := ?_) rfl rfl (by kernel_rfl) (by kernel_rfl) (by kernel_rfl) (fun _ _ _ h => h) (Or.inl ⟨by rfl, ?_⟩) (by assumption) ?_
        rotate_left
        · intro w1 hSw; obtain ⟨hcS, hfS⟩ := bcell hSw; go_simp; (try with_reducible rfl)
        (try simp only [Act.put, List.setIfInBounds_toArray, List.set_cons_zero, List.set_cons_succ])
        refine takeD 12 92 (v := ?_) rfl rfl (by kernel_rfl) (by kernel_rfl) (by kernel_rfl) (fun _ _ _ h => h) (Or.inl ⟨by rfl, ?_⟩) (by assumption) ?_
        rotate_left
        · intro w1 hSw; obtain ⟨hcS, hfS⟩ := bcell hSw; go_simp; (try with_reducible rfl)
        (try simp only [Act.put, List.setIfInBounds_toArray, List.set_cons_zero, List.set_cons_succ])
        refine takeD 13 93 (v := ?_) rfl rfl (by kernel_rfl) (by kernel_rfl) (by kernel_rfl) (fun _ _ _ h => h) (Or.inl ⟨by rfl, ?_⟩) (by assumption) ?_
        rotate_left
        · intro w1 hSw; obtain ⟨hcS, hfS⟩ := bcell hSw; go_simp; (try with_reducible rfl)
        (try simp only [Act.put, List.setIfInBounds_toArray, List.set_cons_zero, List.set_cons_succ])
        refine takeD 14 94 (v := ?_) rfl rfl (by kernel_rfl) (by kernel_rfl) (by kernel_rfl) (fun _ _ _ h => h) (Or.inl ⟨by rfl, ?_⟩) (by assumption) ?_
        rotate_left
        · intro w1 hSw; obtain ⟨hcS, hfS⟩ := bcell hSw; go_simp; (try with_reducible rfl)
        (try simp only [Act.put, List.setIfInBounds_toArray, List.set_cons_zero, List.set_cons_succ])
        refine takeD 15 95 (v := ?_) rfl rfl (by kernel_rfl) (by kernel_rfl) (by kernel_rfl) (fun _ _ _ h => h) (Or.inl ⟨by rfl, ?_⟩) (by assumption) ?_
        rotate_left
        · intro w1 hSw; obtain ⟨hcS, hfS⟩ := bcell hSw; go_simp; (try with_reducible rfl)
        (try simp only [Act.put, List.setIfInBounds_toArray, List.set_cons_zero, List.set_cons_succ])
        refine takeD 16 96 (v := ?_) rfl rfl (by kernel_rfl) (by kernel_rfl) (by kernel_rfl) (fun _ _ _ h => h) (Or.inl ⟨by rfl, ?_⟩) (by assumption) ?_
        rotate_left
        · intro w1 hSw; obtain ⟨hcS, hfS⟩ := bcell hSw; go_simp; (try with_reducible rfl)
        (try simp only [Act.put, List.setIfInBounds_toArray, List.set_cons_zero, List.set_cons_succ])
        refine takeD 17 97 (v := ?_) rfl rfl (by kernel_rfl) (by kernel_rfl) (by kernel_rfl) (fun _ _ _ h => h) (Or.inl ⟨by rfl, ?_⟩) (by assumption) ?_
        rotate_left
        · intro w1 hSw; obtain ⟨hcS, hfS⟩ := bcell hSw; go_simp; (try with_reducible rfl)
        (try simp only [Act.put, List.setIfInBounds_toArray, List.set_cons_zero, List.set_cons_succ])
        refine takeD 18 98 (v := ?_) rfl rfl (by kernel_rfl) (by kernel_rfl) (by kernel_rfl) (fun _ _ _ h => h) (Or.inl ⟨by rfl, ?_⟩) (by assumption) ?_
        rotate_left
        · intro w1 hSw; obtain ⟨hcS, hfS⟩ := bcell hSw; go_simp; (try with_reducible rfl)
        (try simp only [Act.put, List.setIfInBounds_toArray, List.set_cons_zero, List.set_cons_succ])
        refine takeD 19 99 (v := ?_) rfl rfl (by kernel_rfl) (by kernel_rfl) (by kernel_rfl) (fun _ _ _ h => h) (Or.inl ⟨by rfl, ?_⟩) (by assumption) ?_
        rotate_left
        · intro w1 hSw; obtain ⟨hcS, hfS⟩ := bcell hSw; go_simp; (try with_reducible rfl)
        (try simp only [Act.put, List.setIfInBounds_toArray, List.set_cons_zero, List.set_cons_succ])
        refine takeD 20 2 (v := ?_) rfl rfl (by kernel_rfl) (by kernel_rfl) (by kernel_rfl) (fun _ _ _ h => h) (Or.inl ⟨by rfl, ?_⟩) (by assumption) ?_
        rotate_left
        · intro w1 hSw; obtain ⟨hcS, hfS⟩ := bcell hSw; go_simp; (try with_reducible rfl)
        (try simp only [Act.put, List.setIfInBounds_toArray, List.set_cons_zero, List.set_cons_succ])
        refine wpAnyH_done (by kernel_rfl) ?_ _
        have hb := hq2
        replace Z := Lib.hid (Below.and Z.out hb)
        clear hb v0 v1 v2 t0 t1 t2 lt
        go_wp2
        go_light
        go_ret
        exact ⟨rfl, Z.out⟩

end Go.Proofs.Ytgnemgnhjallhaa
