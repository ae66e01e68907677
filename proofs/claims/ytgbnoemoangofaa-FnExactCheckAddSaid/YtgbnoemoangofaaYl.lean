/- The exact law of CheckAdd, walked. -/
import Derived.Test.YtgbnoemoangofaaYk
namespace Go.Proofs.Ytgbnoemoangofaa
open Go.ChangeShapes Go.WideShapes Go.ChangeAt Go.RowKit
set_option linter.unusedVariables false
set_option linter.unusedSimpArgs false

set_option maxRecDepth 100000 in
set_option maxHeartbeats 8000000 in
theorem exactCheckAdd (A : Option Addr) (a : Nat) (L : List Ck) (x : Ck) (w : World) (mL : L.length ≤ maxLen) (rL : Rd 3 Ck.cells w A L) :
    Calls Try.prog 7 #[.slice A L.length a, x.val] w fun e w' => e = .returned (.bool true) ∧ Below w.heap.size w w' := by
  have HL := Lib.hid rL
  have KT : Hid (Bkk (w.alloc (.cells (ckCs x) 43)) w.heap.size 43 (ckCs x)) := Bkk.new _
  have Z : Hid (Below w.heap.size w (w.alloc (.cells (ckCs x) 43))) := (Below.refl _ _).alloc (Nat.le_refl _) _
  clear rL
  go_enter Try.func7, Try.ntmps7
  go_wp2_with (fail)
  obtain ⟨w0, hw0⟩ : ∃ X, X = (w.alloc (.cells (ckCs x) 43)) := ⟨_, rfl⟩
  rw [← hw0] at KT Z ⊢
  clear hw0
  refine (szCheckS_at A L.length a _ mL).mono ?_
  rintro e w1 ⟨rfl, rfl⟩
  by_cases hs : (1048576 : Int) - L.length < 0
  · rw [if_pos hs]
    go_wp2
    go_light
    go_ret
    exact ⟨rfl, Z.out⟩
  rw [if_neg hs]
  have hL : L.length ≤ 1048576 := by omega
  have e0 : decide ((1048576 : Int) - (L.length : Int) < 0) = false := by simp; omega
  obtain ⟨⟨R, u⟩, hX⟩ : ∃ Y, Y = addC L x := ⟨_, rfl⟩
  have HRL : Hid (R.length ≤ L.length + 1) := by have := addC_len L x; rw [← hX] at this; exact this
  have HS : Hid (∀ (wx : World) (A' : Option Addr), RdK wx A' L.length L → Calls Try.prog 12 #[.slice A' L.length L.length, x.val] wx (DoKA (R, u) wx)) := fun wx A' h => by rw [hX]; exact specCheckAdd A' L.length L x wx (by omega) h
  have HI : Hid (∀ (wx : World) (A' : Option Addr), RdK wx A' L.length L → Calls Try.prog 11 #[.slice A' L.length L.length, x.val] wx (DoKA (R, u) wx)) := fun wx A' h => by rw [hX]; exact implCheckAdd A' L.length L x wx (by omega) h
  have nu : (u != u) = false := by simp
  clear mL hs hX
  have t0 : w0.cell? ⟨w.heap.size, 0, none⟩ = some (.int .i64 x.a) := KT.out.cell 0
  have t1 : w0.cell? ⟨w.heap.size, 1, none⟩ = some (.int .i64 x.f) := KT.out.cell 1
  have t2 : w0.cell? ⟨w.heap.size, 2, none⟩ = some (.int .i64 x.n) := KT.out.cell 2
  have lt := KT.out.lt
  go_upto_region 5 with (fail)
  refine wp_region_held_drew (S := fun w1 => Below w0.heap.size w0 w1) (by kernel_rfl) ((Below.refl _ _).drew) (fun hq => ?_)
  refine takeR 0 22 (v := ?_) rfl rfl (by kernel_rfl) (by kernel_rfl) (by kernel_rfl) (fun _ _ _ h => h) (Or.inl ⟨by rfl, ?_⟩) (by assumption) ?_
  rotate_left
  · intro w1 hSw; obtain ⟨hcS, hfS⟩ := bcell hSw; go_simp; (try with_reducible rfl)
  (try simp only [Act.put, List.setIfInBounds_toArray, List.set_cons_zero, List.set_cons_succ])
  refine takeR 2 24 (v := ?_) rfl rfl (by kernel_rfl) (by kernel_rfl) (by kernel_rfl) (fun _ _ _ h => h) (Or.inl ⟨by rfl, ?_⟩) (by assumption) ?_
  rotate_left
  · intro w1 hSw; obtain ⟨hcS, hfS⟩ := bcell hSw; go_simp; (try with_reducible rfl)
  (try simp only [Act.put, List.setIfInBounds_toArray, List.set_cons_zero, List.set_cons_succ])
  refine wpAnyH_ready (rs := [1]) (by kernel_rfl) (by simp) ?_
  refine AllReadyH.cons rfl (fun K hK => ?_) AllReadyH.nil
  go_simp
  refine (toCheckS A a L _ hL (Rd.below HL.out (Below.and Z.out hq))).mono ?_
  rintro e wa ⟨gq, rfl, hg, o1, hb⟩
  clear hg
  have HOQ := Lib.hid (show OwK wa _ (some ⟨gq, 0, none⟩) L.length L from o1)
  clear o1
  refine hK.out _ _ (Below.and hq hb) (fun hq2 => ?_)
  clear hK K
  (try simp only [Act.put, List.setIfInBounds_toArray, List.set_cons_zero, List.set_cons_succ])
  refine wpAnyH_ready (rs := [3]) (by kernel_rfl) (by simp) ?_
  refine AllReadyH.cons rfl (fun K hK => ?_) AllReadyH.nil
  go_simp
  refine (toCheck x _).mono ?_
  rintro e wb ⟨rfl, hb⟩
  replace HOQ := Lib.hid (HOQ.out.below hb)
  refine hK.out _ _ (Below.and hq2 hb) (fun hq3 => ?_)
  clear hK K
  (try simp only [Act.put, List.setIfInBounds_toArray, List.set_cons_zero, List.set_cons_succ])
  refine wpAnyH_ready (rs := [4]) (by kernel_rfl) (by simp) ?_
  refine AllReadyH.cons rfl (fun K hK => ?_) AllReadyH.nil
  go_simp
  refine (HS.out _ _ HOQ.out.rdT).mono ?_
  rintro e wc ⟨AR, aR, rfl, o2, hb⟩
  have OR := Lib.hid o2.bd
  have LOR := Lib.hid (show w0.heap.size ≤ wb.heap.size from (Below.size hq3))
  clear o2
  refine hK.out _ _ (Below.and hq3 hb) (fun hq4 => ?_)
  clear hK K
  (try simp only [Act.put, List.setIfInBounds_toArray, List.set_cons_zero, List.set_cons_succ])
  refine takeR 5 21 (v := ?_) rfl rfl (by kernel_rfl) (by kernel_rfl) (by kernel_rfl) (fun _ _ _ h => h) (Or.inl ⟨by rfl, ?_⟩) (by assumption) ?_
  rotate_left
  · intro w1 hSw; obtain ⟨hcS, hfS⟩ := bcell hSw; go_simp; (try with_reducible rfl)
  (try simp only [Act.put, List.setIfInBounds_toArray, List.set_cons_zero, List.set_cons_succ])
  refine takeR 6 27 (v := ?_) rfl rfl (by kernel_rfl) (by kernel_rfl) (by kernel_rfl) (fun _ _ _ h => h) (Or.inl ⟨by rfl, ?_⟩) (by assumption) ?_
  rotate_left
  · intro w1 hSw; obtain ⟨hcS, hfS⟩ := bcell hSw; go_simp; (try with_reducible rfl)
  (try simp only [Act.put, List.setIfInBounds_toArray, List.set_cons_zero, List.set_cons_succ])
  refine takeR 7 28 (v := ?_) rfl rfl (by kernel_rfl) (by kernel_rfl) (by kernel_rfl) (fun _ _ _ h => h) (Or.inl ⟨by rfl, ?_⟩) (by assumption) ?_
  rotate_left
  · intro w1 hSw; obtain ⟨hcS, hfS⟩ := bcell hSw; go_simp; (try with_reducible rfl)
  (try simp only [Act.put, List.setIfInBounds_toArray, List.set_cons_zero, List.set_cons_succ])
  refine takeR 8 6 (v := ?_) rfl rfl (by kernel_rfl) (by kernel_rfl) (by kernel_rfl) (fun _ _ _ h => h) (Or.inl ⟨by rfl, ?_⟩) (by assumption) ?_
  rotate_left
  · intro w1 hSw; obtain ⟨hcS, hfS⟩ := bcell hSw; go_simp; (try with_reducible rfl)
  (try simp only [Act.put, List.setIfInBounds_toArray, List.set_cons_zero, List.set_cons_succ])
  refine takeR 9 7 (v := ?_) rfl rfl (by kernel_rfl) (by kernel_rfl) (by kernel_rfl) (fun _ _ _ h => h) (Or.inl ⟨by rfl, ?_⟩) (by assumption) ?_
  rotate_left
  · intro w1 hSw; obtain ⟨hcS, hfS⟩ := bcell hSw; go_simp; (try with_reducible rfl)
  (try simp only [Act.put, List.setIfInBounds_toArray, List.set_cons_zero, List.set_cons_succ])
  refine wpAnyH_done (by kernel_rfl) ?_ _
  have hb := hq4
  replace KT := Lib.hid (KT.out.below hb)
  replace Z := Lib.hid (Below.and Z.out hb)
  have LKT := Lib.hid (show w.heap.size < wc.heap.size from KT.out.lt)
  have LW0 := Lib.hid (show w.heap.size ≤ wb.heap.size by have := LOR.out; omega)
  obtain ⟨w2, hw2⟩ : ∃ X, X = wc := ⟨_, rfl⟩
  obtain ⟨loW, hlo⟩ : ∃ X, X = wb.heap.size := ⟨_, rfl⟩
  rw [← hw2] at OR KT Z LKT ⊢
  rw [← hlo] at OR LW0
  have OW := OR
  clear OR LOR HOQ hb hw2 hlo hq t0 t1 t2 lt
  go_wp2_with (fail)
  refine (toCheckS A a L _ hL (Rd.below HL.out Z.out)).mono ?_
  rintro e w3 ⟨g2, rfl, hg, o1, hb⟩
  clear hg
  replace KT := Lib.hid (KT.out.below hb)
  replace Z := Lib.hid (Below.and Z.out hb)
  replace OW := Lib.hid (OW.out.below hb)
  have OX := Lib.hid (OwK.bd (show OwK w3 w2.heap.size (some ⟨g2, 0, none⟩) L.length L from o1))
  have SOX := Lib.hid hb.size
  clear o1 hb
  have t0 : w3.cell? ⟨w.heap.size, 0, none⟩ = some (.int .i64 x.a) := KT.out.cell 0
  have t1 : w3.cell? ⟨w.heap.size, 1, none⟩ = some (.int .i64 x.f) := KT.out.cell 1
  have t2 : w3.cell? ⟨w.heap.size, 2, none⟩ = some (.int .i64 x.n) := KT.out.cell 2
  have lt := KT.out.lt
  go_wp2_with (fail)
  refine (toCheck x _).mono ?_
  rintro e w4 ⟨rfl, hb⟩
  replace KT := Lib.hid (KT.out.below hb)
  replace Z := Lib.hid (Below.and Z.out hb)
  replace OW := Lib.hid (OW.out.below hb)
  replace OX := Lib.hid (OX.out.below hb)
  have LXG := Lib.hid (show w3.heap.size ≤ w4.heap.size from hb.size)
  clear hb t0 t1 t2 lt
  go_wp2_with (fail)
  refine (HI.out _ _ OX.out.own.rdT).mono ?_
  rintro e w5 ⟨AG, aG, rfl, o2, hb⟩
  have OG := Lib.hid o2.bd
  replace KT := Lib.hid (KT.out.below hb)
  replace Z := Lib.hid (Below.and Z.out hb)
  replace OW := Lib.hid (OW.out.below hb)
  replace OX := Lib.hid (OX.out.below hb)
  have L45 := Lib.hid hb.size
  clear o2 hb
  go_wp2_with (fail)
  refine (eqCheckS_rd _ _ _ _ _ _ (by have := HRL.out; omega) OG.out.own.rd OW.out.own.rd).mono ?_
  rintro e w6 ⟨rfl, hb⟩
  replace KT := Lib.hid (KT.out.below hb)
  replace Z := Lib.hid (Below.and Z.out hb)
  replace OW := Lib.hid (OW.out.below hb)
  replace OX := Lib.hid (OX.out.below hb)
  replace OG := Lib.hid (OG.out.below hb)
  clear hb
  go_wp2_with (fail)
  refine (toCheckS A a L _ hL (Rd.below HL.out Z.out)).mono ?_
  rintro e w7 ⟨g3, rfl, hg, o1, hb⟩
  clear hg
  replace KT := Lib.hid (KT.out.below hb)
  replace Z := Lib.hid (Below.and Z.out hb)
  replace OW := Lib.hid (OW.out.below hb)
  replace OX := Lib.hid (OX.out.below hb)
  replace OG := Lib.hid (OG.out.below hb)
  have OY := Lib.hid (OwK.bd (show OwK w7 w6.heap.size (some ⟨g3, 0, none⟩) L.length L from o1))
  have SOY := Lib.hid hb.size
  clear o1 hb
  go_wp2_with (fail)
  refine (eqCheckS_rd _ _ _ _ _ _ (by omega) OX.out.own.rd OY.out.own.rd).mono ?_
  rintro e w8 ⟨rfl, hb⟩
  replace KT := Lib.hid (KT.out.below hb)
  replace Z := Lib.hid (Below.and Z.out hb)
  replace OW := Lib.hid (OW.out.below hb)
  replace OX := Lib.hid (OX.out.below hb)
  replace OG := Lib.hid (OG.out.below hb)
  clear hb
  clear OY SOY
  have hRL := HRL.out
  have ngL : decide ((1 : Int) + 3 * (L.length : Int) < 0) = false := by simp; omega
  have nnL : ((1 : Int) + 3 * (L.length : Int) != 1 + 3 * (L.length : Int)) = false := by simp
  have ngR : decide ((1 : Int) + 3 * (R.length : Int) < 0) = false := by simp; omega
  have nnR : ((1 : Int) + 3 * (R.length : Int) != 1 + 3 * (R.length : Int)) = false := by simp
  go_wp2_with (fail)
  refine (markCheckS _ _ _ L.length _ 1 _ (by omega) (by omega) (by unfold maxLen; omega) (show World.ownsRow _ _ _ _ _ _ _ from OX.out.own)).mono ?_
  rintro e w9 ⟨rfl, hm, hg⟩
  have hbk := OX.out.bk
  replace OW := Lib.hid (OW.out.grown hg (fun k hk => by have h1 := hbk k hk; have := SOX.out; omega))
  replace OG := Lib.hid (OG.out.grown hg (fun k hk => by have h1 := hbk k hk; have := LXG.out; omega))
  replace KT := Lib.hid (KT.out.grownK' hg (fun k hk => by have h1 := hbk k hk; have := LKT.out; omega))
  replace Z := Lib.hid (Z.out.grown hg Z.out.size (fun k hk => by have h1 := hbk k hk; have := LKT.out; omega))
  have MOX := Lib.hid (RdM.of_own hm)
  clear hm hg hbk OX
  go_wp2_with (fail)
  refine (eqCheckS_rd _ _ _ _ _ _ (by have := HRL.out; omega) OG.out.own.rd OW.out.own.rd).mono ?_
  rintro e wA ⟨rfl, hb⟩
  replace KT := Lib.hid (KT.out.below hb)
  replace Z := Lib.hid (Below.and Z.out hb)
  replace OW := Lib.hid (OW.out.below hb)
  replace OG := Lib.hid (OG.out.below hb)
  clear hb
  go_wp2_with (fail)
  refine (markCheckS _ _ _ R.length _ 1 _ (by omega) (by omega) (by unfold maxLen; omega) (show World.ownsRow _ _ _ _ _ _ _ from OG.out.own)).mono ?_
  rintro e wB ⟨rfl, hm, hg⟩
  have hbk := OG.out.bk
  replace OW := Lib.hid (OW.out.grown hg (fun k hk => by have h1 := hbk k hk; have := SOX.out; have := LXG.out; omega))
  replace KT := Lib.hid (KT.out.grownK' hg (fun k hk => by have h1 := hbk k hk; have := LKT.out; have := SOX.out; have := LXG.out; omega))
  replace Z := Lib.hid (Z.out.grown hg Z.out.size (fun k hk => by have h1 := hbk k hk; have := LKT.out; have := SOX.out; have := LXG.out; omega))
  have MOG := Lib.hid (RdM.of_own hm)
  clear hm hg hbk OG
  go_wp2_with (fail)
  refine (heldCheckS _ _ R.length 1 _ (by omega) (by omega) (by unfold maxLen; omega) MOG.out).mono ?_
  rintro e wC ⟨rfl, rfl⟩
  have t0 : wC.cell? ⟨w.heap.size, 0, none⟩ = some (.int .i64 x.a) := KT.out.cell 0
  have t1 : wC.cell? ⟨w.heap.size, 1, none⟩ = some (.int .i64 x.f) := KT.out.cell 1
  have t2 : wC.cell? ⟨w.heap.size, 2, none⟩ = some (.int .i64 x.n) := KT.out.cell 2
  have lt := KT.out.lt
  go_upto_region 24 with (fail)
  refine wp_region_held_drew (S := fun w1 => Below wC.heap.size wC w1) (by kernel_rfl) ((Below.refl _ _).drew) (fun hq => ?_)
  refine takeR 0 80 (v := ?_) rfl rfl (by kernel_rfl) (by kernel_rfl) (by kernel_rfl) (fun _ _ _ h => h) (Or.inl ⟨by rfl, ?_⟩) (by assumption) ?_
  rotate_left
  · intro w1 hSw; obtain ⟨hcS, hfS⟩ := bcell hSw; go_simp; (try with_reducible rfl)
  (try simp only [Act.put, List.setIfInBounds_toArray, List.set_cons_zero, List.set_cons_succ])
  refine takeR 2 82 (v := ?_) rfl rfl (by kernel_rfl) (by kernel_rfl) (by kernel_rfl) (fun _ _ _ h => h) (Or.inl ⟨by rfl, ?_⟩) (by assumption) ?_
  rotate_left
  · intro w1 hSw; obtain ⟨hcS, hfS⟩ := bcell hSw; go_simp; (try with_reducible rfl)
  (try simp only [Act.put, List.setIfInBounds_toArray, List.set_cons_zero, List.set_cons_succ])
  refine wpAnyH_ready (rs := [1]) (by kernel_rfl) (by simp) ?_
  refine AllReadyH.cons rfl (fun K hK => ?_) AllReadyH.nil
  go_simp
  refine (toCheckS A a L _ hL (Rd.below HL.out (Below.and Z.out hq))).mono ?_
  rintro e wa ⟨gq, rfl, hg, o1, hb⟩
  clear hg
  have HOQ := Lib.hid (show OwK wa _ (some ⟨gq, 0, none⟩) L.length L from o1)
  clear o1
  refine hK.out _ _ (Below.and hq hb) (fun hq2 => ?_)
  clear hK K
  (try simp only [Act.put, List.setIfInBounds_toArray, List.set_cons_zero, List.set_cons_succ])
  refine wpAnyH_ready (rs := [3]) (by kernel_rfl) (by simp) ?_
  refine AllReadyH.cons rfl (fun K hK => ?_) AllReadyH.nil
  go_simp
  refine (toCheck x _).mono ?_
  rintro e wb ⟨rfl, hb⟩
  replace HOQ := Lib.hid (HOQ.out.below hb)
  refine hK.out _ _ (Below.and hq2 hb) (fun hq3 => ?_)
  clear hK K
  (try simp only [Act.put, List.setIfInBounds_toArray, List.set_cons_zero, List.set_cons_succ])
  refine wpAnyH_ready (rs := [4]) (by kernel_rfl) (by simp) ?_
  refine AllReadyH.cons rfl (fun K hK => ?_) AllReadyH.nil
  go_simp
  refine (HI.out _ _ HOQ.out.rdT).mono ?_
  rintro e wc ⟨AR, aR, rfl, o2, hb⟩
  have OR := Lib.hid o2.bd
  have LOR2 := Lib.hid (show wC.heap.size ≤ wb.heap.size from (Below.size hq3))
  clear o2
  refine hK.out _ _ (Below.and hq3 hb) (fun hq4 => ?_)
  clear hK K
  (try simp only [Act.put, List.setIfInBounds_toArray, List.set_cons_zero, List.set_cons_succ])
  refine takeR 5 79 (v := ?_) rfl rfl (by kernel_rfl) (by kernel_rfl) (by kernel_rfl) (fun _ _ _ h => h) (Or.inl ⟨by rfl, ?_⟩) (by assumption) ?_
  rotate_left
  · intro w1 hSw; obtain ⟨hcS, hfS⟩ := bcell hSw; go_simp; (try with_reducible rfl)
  (try simp only [Act.put, List.setIfInBounds_toArray, List.set_cons_zero, List.set_cons_succ])
  refine takeR 6 85 (v := ?_) rfl rfl (by kernel_rfl) (by kernel_rfl) (by kernel_rfl) (fun _ _ _ h => h) (Or.inl ⟨by rfl, ?_⟩) (by assumption) ?_
  rotate_left
  · intro w1 hSw; obtain ⟨hcS, hfS⟩ := bcell hSw; go_simp; (try with_reducible rfl)
  (try simp only [Act.put, List.setIfInBounds_toArray, List.set_cons_zero, List.set_cons_succ])
  refine takeR 7 86 (v := ?_) rfl rfl (by kernel_rfl) (by kernel_rfl) (by kernel_rfl) (fun _ _ _ h => h) (Or.inl ⟨by rfl, ?_⟩) (by assumption) ?_
  rotate_left
  · intro w1 hSw; obtain ⟨hcS, hfS⟩ := bcell hSw; go_simp; (try with_reducible rfl)
  (try simp only [Act.put, List.setIfInBounds_toArray, List.set_cons_zero, List.set_cons_succ])
  refine takeR 8 14 (v := ?_) rfl rfl (by kernel_rfl) (by kernel_rfl) (by kernel_rfl) (fun _ _ _ h => h) (Or.inl ⟨by rfl, ?_⟩) (by assumption) ?_
  rotate_left
  · intro w1 hSw; obtain ⟨hcS, hfS⟩ := bcell hSw; go_simp; (try with_reducible rfl)
  (try simp only [Act.put, List.setIfInBounds_toArray, List.set_cons_zero, List.set_cons_succ])
  refine takeR 9 15 (v := ?_) rfl rfl (by kernel_rfl) (by kernel_rfl) (by kernel_rfl) (fun _ _ _ h => h) (Or.inl ⟨by rfl, ?_⟩) (by assumption) ?_
  rotate_left
  · intro w1 hSw; obtain ⟨hcS, hfS⟩ := bcell hSw; go_simp; (try with_reducible rfl)
  (try simp only [Act.put, List.setIfInBounds_toArray, List.set_cons_zero, List.set_cons_succ])
  refine wpAnyH_done (by kernel_rfl) ?_ _
  have hb := hq4
  replace KT := Lib.hid (KT.out.below hb)
  replace Z := Lib.hid (Below.and Z.out hb)
  replace OW := Lib.hid (OW.out.below hb)
  have MOG2 := Lib.hid (RdM.below MOG.out hb)
  have OH := OR
  obtain ⟨wD, hwD⟩ : ∃ X, X = wc := ⟨_, rfl⟩
  rw [← hwD] at OH KT Z OW MOG2 ⊢
  clear OR LOR2 HOQ hb hwD hq t0 t1 t2 lt MOG
  have MOG := MOG2
  clear MOG2
  go_wp2_with (fail)
  refine (eqCheckS_rd _ _ _ _ _ _ (by have := HRL.out; omega) OH.out.own.rd OW.out.own.rd).mono ?_
  rintro e wE ⟨rfl, hb⟩
  replace KT := Lib.hid (KT.out.below hb)
  replace Z := Lib.hid (Below.and Z.out hb)
  replace OW := Lib.hid (OW.out.below hb)
  replace OH := Lib.hid (OH.out.below hb)
  replace MOG := Lib.hid (RdM.below MOG.out hb)
  clear hb
  go_wp2_with (fail)
  refine (heldCheckS _ _ R.length 1 _ (by omega) (by omega) (by unfold maxLen; omega) MOG.out).mono ?_
  rintro e wF ⟨rfl, rfl⟩
  go_wp2
  go_light
  go_ret
  exact ⟨rfl, Z.out⟩

end Go.Proofs.Ytgbnoemoangofaa
