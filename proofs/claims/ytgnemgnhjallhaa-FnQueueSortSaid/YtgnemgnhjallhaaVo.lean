/- The exact law of QueueNext, walked. -/
import Derived.Test.YtgnemgnhjallhaaVn
namespace Go.Proofs.Ytgnemgnhjallhaa
open Go.ChangeShapes Go.WideShapes Go.ChangeAt Go.RowKit
set_option linter.unusedVariables false
set_option linter.unusedSimpArgs false

theorem eqTimed_same (x : Tm) (w : World) : Calls Try.prog 34 #[x.val, x.val] w fun e w' => e = .returned (.bool true) ∧ Below w.heap.size w w' := by
  refine (eqTimed x x w).mono ?_
  rintro e w' ⟨rfl, h⟩
  exact ⟨by simp, h⟩

set_option maxRecDepth 100000 in
set_option maxHeartbeats 8000000 in
theorem exactQueueNext (A : Option Addr) (a : Nat) (L : List Tm) (w : World) (mL : L.length ≤ maxLen) (rL : Rd 3 Tm.cells w A L) :
    Calls Try.prog 9 #[.slice A L.length a] w fun e w' => e = .returned (.bool true) ∧ Below w.heap.size w w' := by
  have HL := Lib.hid rL
  have Z : Hid (Below w.heap.size w w) := Below.refl _ _
  clear rL
  go_enter Try.func9, Try.ntmps9
  go_wp2_with (fail)
  refine (szTimedS_at A L.length a _ mL).mono ?_
  rintro e w1 ⟨rfl, rfl⟩
  by_cases hs : (1048576 : Int) - L.length < 0
  · rw [if_pos hs]
    go_wp2
    go_light
    go_ret
    exact ⟨rfl, Z.out⟩
  rw [if_neg hs]
  have hL : L.length ≤ 1048576 := by omega
  have e0 : decide ((1048576 : Int) - (L.length : Int) < 0) = false := by simp; omega
  obtain ⟨⟨⟨R, x⟩, u⟩, hX⟩ : ∃ Y, Y = nextQ L := ⟨_, rfl⟩
  have HRL : Hid (R.length ≤ L.length) := by have := nextQ_len L; rw [← hX] at this; exact this
  have HS : Hid (∀ (wx : World) (A' : Option Addr), RdT wx A' L.length L → Calls Try.prog 20 #[.slice A' L.length L.length] wx (DoN ((R, x), u) wx)) := fun wx A' h => by rw [hX]; exact specQueueNext A' L.length L wx (by omega) h
  have HI : Hid (∀ (wx : World) (A' : Option Addr), RdT wx A' L.length L → Calls Try.prog 19 #[.slice A' L.length L.length] wx (DoN ((R, x), u) wx)) := fun wx A' h => by rw [hX]; exact implQueueNext A' L.length L wx (by omega) h
  have nu : (u != u) = false := by simp
  clear mL hs hX
  go_wp2_with (fail)
  refine (toTimedS A a L _ hL (Rd.below HL.out Z.out)).mono ?_
  rintro e w2 ⟨g1, rfl, hg, o1, hb⟩
  clear hg
  replace Z := Lib.hid (Below.and Z.out hb)
  have OQ := Lib.hid (OwT.bd (show OwT w2 w.heap.size (some ⟨g1, 0, none⟩) L.length L from o1))
  have SOQ := Lib.hid hb.size
  clear o1 hb
  go_wp2_with (fail)
  refine (HS.out _ _ OQ.out.own.rdT).mono ?_
  rintro e w3 ⟨AOW, aOW, rfl, o2, hb⟩
  have OW := Lib.hid o2.bd
  replace Z := Lib.hid (Below.and Z.out hb)
  have SOW := Lib.hid hb.size
  clear o2 hb
  have hba : Below w3.heap.size w3 (w3.alloc (.cells (tmCs x) 25)) := (Below.refl _ _).alloc (Nat.le_refl _) _
  have K5 : Hid (Bkk (w3.alloc (.cells (tmCs x) 25)) w3.heap.size 25 (tmCs x)) := Bkk.new _
  have SK5 := Lib.hid (show w3.heap.size < (w3.alloc (.cells (tmCs x) 25)).heap.size by simp)
  replace Z := Lib.hid (Below.and Z.out hba)
  replace OW := Lib.hid (OW.out.below hba)
  clear hba
  go_upto_region 6 with (fail)
  obtain ⟨b5, hb5⟩ : ∃ X, X = w3.heap.size := ⟨_, rfl⟩
  obtain ⟨w4, hw4⟩ : ∃ X, X = (w3.alloc (.cells (tmCs x) 25)) := ⟨_, rfl⟩
  rw [← hw4] at K5 SK5 Z OW ⊢
  rw [← hb5] at K5 SK5 OW SOW ⊢
  clear hb5 hw4
  have SW0 := Lib.hid (show w.heap.size ≤ w2.heap.size from SOQ.out)
  clear OQ SOQ
  go_wp2_with (fail)
  refine (toTimedS A a L _ hL (Rd.below HL.out Z.out)).mono ?_
  rintro e w5 ⟨g2, rfl, hg, o1, hb⟩
  clear hg
  replace Z := Lib.hid (Below.and Z.out hb)
  replace OW := Lib.hid (OW.out.below hb)
  replace K5 := Lib.hid (K5.out.below hb)
  have OX := Lib.hid (OwT.bd (show OwT w5 w4.heap.size (some ⟨g2, 0, none⟩) L.length L from o1))
  have SOX := Lib.hid hb.size
  clear o1 hb
  go_wp2_with (fail)
  refine (HI.out _ _ OX.out.own.rdT).mono ?_
  rintro e w6 ⟨AOG, aOG, rfl, o2, hb⟩
  have OG := Lib.hid o2.bd
  replace Z := Lib.hid (Below.and Z.out hb)
  replace OW := Lib.hid (OW.out.below hb)
  replace K5 := Lib.hid (K5.out.below hb)
  replace OX := Lib.hid (OX.out.below hb)
  have SOG := Lib.hid hb.size
  clear o2 hb
  have hba : Below w6.heap.size w6 (w6.alloc (.cells (tmCs x) 25)) := (Below.refl _ _).alloc (Nat.le_refl _) _
  have K9 : Hid (Bkk (w6.alloc (.cells (tmCs x) 25)) w6.heap.size 25 (tmCs x)) := Bkk.new _
  have SK9 := Lib.hid (show w6.heap.size < (w6.alloc (.cells (tmCs x) 25)).heap.size by simp)
  replace Z := Lib.hid (Below.and Z.out hba)
  replace OW := Lib.hid (OW.out.below hba)
  replace K5 := Lib.hid (K5.out.below hba)
  replace OX := Lib.hid (OX.out.below hba)
  replace OG := Lib.hid (OG.out.below hba)
  clear hba
  go_upto_region 8 with (fail)
  obtain ⟨b9, hb9⟩ : ∃ X, X = w6.heap.size := ⟨_, rfl⟩
  obtain ⟨w7, hw7⟩ : ∃ X, X = (w6.alloc (.cells (tmCs x) 25)) := ⟨_, rfl⟩
  rw [← hw7] at K9 SK9 Z OW K5 OX OG ⊢
  rw [← hb9] at K9 SK9 OG SOG ⊢
  clear hb9 hw7
  go_wp2_with (fail)
  refine (eqTimedS_rd _ _ _ _ _ _ (by have := HRL.out; omega) OG.out.own.rd OW.out.own.rd).mono ?_
  rintro e w8 ⟨rfl, hb⟩
  replace Z := Lib.hid (Below.and Z.out hb)
  replace OW := Lib.hid (OW.out.below hb)
  replace K5 := Lib.hid (K5.out.below hb)
  replace OX := Lib.hid (OX.out.below hb)
  replace OG := Lib.hid (OG.out.below hb)
  replace K9 := Lib.hid (K9.out.below hb)
  clear hb
  have p0 : w8.cell? ⟨b9, 0, none⟩ = some (.int .i64 x.a) := K9.out.cell 0
  have p1 : w8.cell? ⟨b9, 1, none⟩ = some (.int .i64 x.f) := K9.out.cell 1
  have p2 : w8.cell? ⟨b9, 2, none⟩ = some (.int .i64 x.n) := K9.out.cell 2
  have lp := K9.out.lt
  have q0 : w8.cell? ⟨b5, 0, none⟩ = some (.int .i64 x.a) := K5.out.cell 0
  have q1 : w8.cell? ⟨b5, 1, none⟩ = some (.int .i64 x.f) := K5.out.cell 1
  have q2 : w8.cell? ⟨b5, 2, none⟩ = some (.int .i64 x.n) := K5.out.cell 2
  have lq := K5.out.lt
  go_wp2_with (fail)
  refine (eqTimed_same x _).mono ?_
  rintro e w9 ⟨rfl, hb⟩
  replace Z := Lib.hid (Below.and Z.out hb)
  replace OW := Lib.hid (OW.out.below hb)
  replace K5 := Lib.hid (K5.out.below hb)
  replace OX := Lib.hid (OX.out.below hb)
  replace OG := Lib.hid (OG.out.below hb)
  replace K9 := Lib.hid (K9.out.below hb)
  clear hb
  clear p0 p1 p2 lp
  clear q0 q1 q2 lq
  go_wp2_with (fail)
  refine (toTimedS A a L _ hL (Rd.below HL.out Z.out)).mono ?_
  rintro e wA ⟨g3, rfl, hg, o1, hb⟩
  clear hg
  replace Z := Lib.hid (Below.and Z.out hb)
  replace OW := Lib.hid (OW.out.below hb)
  replace K5 := Lib.hid (K5.out.below hb)
  replace OX := Lib.hid (OX.out.below hb)
  replace OG := Lib.hid (OG.out.below hb)
  replace K9 := Lib.hid (K9.out.below hb)
  have OY := Lib.hid (OwT.bd (show OwT wA w9.heap.size (some ⟨g3, 0, none⟩) L.length L from o1))
  have SOY := Lib.hid hb.size
  clear o1 hb
  go_wp2_with (fail)
  refine (eqTimedS_rd _ _ _ _ _ _ (by omega) OX.out.own.rd OY.out.own.rd).mono ?_
  rintro e wB ⟨rfl, hb⟩
  replace Z := Lib.hid (Below.and Z.out hb)
  replace OW := Lib.hid (OW.out.below hb)
  replace K5 := Lib.hid (K5.out.below hb)
  replace OX := Lib.hid (OX.out.below hb)
  replace OG := Lib.hid (OG.out.below hb)
  replace K9 := Lib.hid (K9.out.below hb)
  clear hb
  clear OY SOY
  have hRL := HRL.out
  have ngL : decide ((1 : Int) + 3 * (L.length : Int) < 0) = false := by simp; omega
  have nnL : ((1 : Int) + 3 * (L.length : Int) != 1 + 3 * (L.length : Int)) = false := by simp
  have ngR : decide ((1 : Int) + 3 * (R.length : Int) < 0) = false := by simp; omega
  have nnR : ((1 : Int) + 3 * (R.length : Int) != 1 + 3 * (R.length : Int)) = false := by simp
  go_wp2_with (fail)
  refine (markTimedS _ _ _ L.length _ 1 _ (by omega) (by omega) (by unfold maxLen; omega) (show World.ownsRow _ _ _ _ _ _ _ from OX.out.own)).mono ?_
  rintro e wC ⟨rfl, hm, hg⟩
  have hbk := OX.out.bk
  replace OW := Lib.hid (OW.out.grown hg (fun k hk => by have h1 := hbk k hk; have s1 := SK5.out; have s2 := SOX.out; have s3 := SOG.out; omega))
  replace OG := Lib.hid (OG.out.grown hg (fun k hk => by have h1 := hbk k hk; have s1 := SK5.out; have s2 := SOX.out; have s3 := SOG.out; omega))
  replace K5 := Lib.hid (K5.out.grown' hg (fun k hk => by have h1 := hbk k hk; have s1 := SK5.out; have s2 := SOX.out; have s3 := SOG.out; omega))
  replace K9 := Lib.hid (K9.out.grown' hg (fun k hk => by have h1 := hbk k hk; have s1 := SK5.out; have s2 := SOX.out; have s3 := SOG.out; omega))
  replace Z := Lib.hid (Z.out.grown hg Z.out.size (fun k hk => by have h1 := hbk k hk; have s1 := SK5.out; have s2 := SOX.out; have s3 := SOG.out; have s4 := SOW.out; have s5 := SW0.out; omega))
  have MOX := Lib.hid (RdM.of_own hm)
  clear hm hg hbk OX
  go_wp2_with (fail)
  refine (eqTimedS_rd _ _ _ _ _ _ (by have := HRL.out; omega) OG.out.own.rd OW.out.own.rd).mono ?_
  rintro e wD ⟨rfl, hb⟩
  replace Z := Lib.hid (Below.and Z.out hb)
  replace OW := Lib.hid (OW.out.below hb)
  replace K5 := Lib.hid (K5.out.below hb)
  replace OG := Lib.hid (OG.out.below hb)
  replace K9 := Lib.hid (K9.out.below hb)
  clear hb
  have p0 : wD.cell? ⟨b9, 0, none⟩ = some (.int .i64 x.a) := K9.out.cell 0
  have p1 : wD.cell? ⟨b9, 1, none⟩ = some (.int .i64 x.f) := K9.out.cell 1
  have p2 : wD.cell? ⟨b9, 2, none⟩ = some (.int .i64 x.n) := K9.out.cell 2
  have lp := K9.out.lt
  have q0 : wD.cell? ⟨b5, 0, none⟩ = some (.int .i64 x.a) := K5.out.cell 0
  have q1 : wD.cell? ⟨b5, 1, none⟩ = some (.int .i64 x.f) := K5.out.cell 1
  have q2 : wD.cell? ⟨b5, 2, none⟩ = some (.int .i64 x.n) := K5.out.cell 2
  have lq := K5.out.lt
  go_wp2_with (fail)
  refine (eqTimed_same x _).mono ?_
  rintro e wE ⟨rfl, hb⟩
  replace Z := Lib.hid (Below.and Z.out hb)
  replace OW := Lib.hid (OW.out.below hb)
  replace K5 := Lib.hid (K5.out.below hb)
  replace OG := Lib.hid (OG.out.below hb)
  replace K9 := Lib.hid (K9.out.below hb)
  clear hb
  clear p0 p1 p2 lp
  clear q0 q1 q2 lq
  go_wp2_with (fail)
  refine (markTimedS _ _ _ R.length _ 1 _ (by omega) (by omega) (by unfold maxLen; omega) (show World.ownsRow _ _ _ _ _ _ _ from OG.out.own)).mono ?_
  rintro e wF ⟨rfl, hm, hg⟩
  have hbk := OG.out.bk
  replace OW := Lib.hid (OW.out.grown hg (fun k hk => by have h1 := hbk k hk; have s1 := SK5.out; have s2 := SOX.out; have s3 := SOG.out; omega))
  replace K5 := Lib.hid (K5.out.grown' hg (fun k hk => by have h1 := hbk k hk; have s1 := SK5.out; have s2 := SOX.out; have s3 := SOG.out; omega))
  replace Z := Lib.hid (Z.out.grown hg Z.out.size (fun k hk => by have h1 := hbk k hk; have s1 := SK5.out; have s2 := SOX.out; have s3 := SOG.out; have s4 := SOW.out; have s5 := SW0.out; omega))
  have MOG := Lib.hid (RdM.of_own hm)
  clear hm hg hbk OG
  clear K9
  go_wp2_with (fail)
  refine (heldTimedS _ _ R.length 1 _ (by omega) (by omega) (by unfold maxLen; omega) MOG.out).mono ?_
  rintro e wG ⟨rfl, rfl⟩
  go_wp2_with (fail)
  refine (toTimedS A a L _ hL (Rd.below HL.out Z.out)).mono ?_
  rintro e wH ⟨g4, rfl, hg, o1, hb⟩
  clear hg
  replace Z := Lib.hid (Below.and Z.out hb)
  replace OW := Lib.hid (OW.out.below hb)
  replace K5 := Lib.hid (K5.out.below hb)
  have OV := Lib.hid (OwT.bd (show OwT wH wG.heap.size (some ⟨g4, 0, none⟩) L.length L from o1))
  have SOV := Lib.hid hb.size
  replace MOG := Lib.hid (RdM.below MOG.out hb)
  clear o1 hb
  go_wp2_with (fail)
  refine (HI.out _ _ OV.out.own.rdT).mono ?_
  rintro e wI ⟨AOH, aOH, rfl, o2, hb⟩
  have OH := Lib.hid o2.bd
  replace Z := Lib.hid (Below.and Z.out hb)
  replace OW := Lib.hid (OW.out.below hb)
  replace K5 := Lib.hid (K5.out.below hb)
  have SOH := Lib.hid hb.size
  replace MOG := Lib.hid (RdM.below MOG.out hb)
  clear o2 hb
  have hba : Below wI.heap.size wI (wI.alloc (.cells (tmCs x) 25)) := (Below.refl _ _).alloc (Nat.le_refl _) _
  have KF : Hid (Bkk (wI.alloc (.cells (tmCs x) 25)) wI.heap.size 25 (tmCs x)) := Bkk.new _
  have SKF := Lib.hid (show wI.heap.size < (wI.alloc (.cells (tmCs x) 25)).heap.size by simp)
  replace Z := Lib.hid (Below.and Z.out hba)
  replace OW := Lib.hid (OW.out.below hba)
  replace K5 := Lib.hid (K5.out.below hba)
  replace OH := Lib.hid (OH.out.below hba)
  replace MOG := Lib.hid (RdM.below MOG.out hba)
  clear hba
  go_upto_region 25 with (fail)
  obtain ⟨bF, hbF⟩ : ∃ X, X = wI.heap.size := ⟨_, rfl⟩
  obtain ⟨wJ, hwJ⟩ : ∃ X, X = (wI.alloc (.cells (tmCs x) 25)) := ⟨_, rfl⟩
  rw [← hwJ] at KF SKF MOG Z OW K5 OH ⊢
  rw [← hbF] at KF SKF OH SOH ⊢
  clear hbF hwJ
  clear OV SOV
  go_wp2_with (fail)
  refine (eqTimedS_rd _ _ _ _ _ _ (by have := HRL.out; omega) OH.out.own.rd OW.out.own.rd).mono ?_
  rintro e wK ⟨rfl, hb⟩
  replace Z := Lib.hid (Below.and Z.out hb)
  replace OW := Lib.hid (OW.out.below hb)
  replace K5 := Lib.hid (K5.out.below hb)
  replace OH := Lib.hid (OH.out.below hb)
  replace KF := Lib.hid (KF.out.below hb)
  replace MOG := Lib.hid (RdM.below MOG.out hb)
  clear hb
  have p0 : wK.cell? ⟨bF, 0, none⟩ = some (.int .i64 x.a) := KF.out.cell 0
  have p1 : wK.cell? ⟨bF, 1, none⟩ = some (.int .i64 x.f) := KF.out.cell 1
  have p2 : wK.cell? ⟨bF, 2, none⟩ = some (.int .i64 x.n) := KF.out.cell 2
  have lp := KF.out.lt
  have q0 : wK.cell? ⟨b5, 0, none⟩ = some (.int .i64 x.a) := K5.out.cell 0
  have q1 : wK.cell? ⟨b5, 1, none⟩ = some (.int .i64 x.f) := K5.out.cell 1
  have q2 : wK.cell? ⟨b5, 2, none⟩ = some (.int .i64 x.n) := K5.out.cell 2
  have lq := K5.out.lt
  go_wp2_with (fail)
  refine (eqTimed_same x _).mono ?_
  rintro e wL ⟨rfl, hb⟩
  replace Z := Lib.hid (Below.and Z.out hb)
  replace OW := Lib.hid (OW.out.below hb)
  replace K5 := Lib.hid (K5.out.below hb)
  replace OH := Lib.hid (OH.out.below hb)
  replace KF := Lib.hid (KF.out.below hb)
  replace MOG := Lib.hid (RdM.below MOG.out hb)
  clear hb
  clear p0 p1 p2 lp
  clear q0 q1 q2 lq
  go_wp2_with (fail)
  refine (heldTimedS _ _ R.length 1 _ (by omega) (by omega) (by unfold maxLen; omega) MOG.out).mono ?_
  rintro e wM ⟨rfl, rfl⟩
  go_wp2
  go_light
  go_ret
  exact ⟨rfl, Z.out⟩

end Go.Proofs.Ytgnemgnhjallhaa
