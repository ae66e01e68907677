/- The exact law of QueueTill, walked. -/
import Derived.Test.YtgnemgnhjallhaaVp
namespace Go.Proofs.Ytgnemgnhjallhaa
open Go.ChangeShapes Go.WideShapes Go.ChangeAt Go.RowKit
set_option linter.unusedVariables false
set_option linter.unusedSimpArgs false

theorem cell_grown {w w' : World} {row : Option Nat} {g o : Nat} {u : Value} (hg : w.grownBy w' row) (hc : w.cell? ⟨g, o, none⟩ = some u) (hr : some g ≠ row) : w'.cell? ⟨g, o, none⟩ = some u := (World.cell?_of_block (hg.block g (World.block_lt_of_cell? w _ hc) hr)).trans hc
theorem OwI.sep {w w' : World} {lo hi : Nat} {A B : Option Addr} {a b : Nat} {X D : List Tm} (h : OwI w lo hi B b D) (hg : w.grownBy w' (Value.slice A X.length a).ownBlock) (ne : ∀ k, (Value.slice A X.length a).ownBlock = some k → (Value.slice B D.length b).ownBlock ≠ some k) : OwI w' lo hi B b D :=
  ⟨h.own.grown hg (fun k hk e => ne k e hk), h.ub⟩

set_option maxRecDepth 100000 in
set_option maxHeartbeats 8000000 in
theorem exactQueueTill (A : Option Addr) (a : Nat) (L : List Tm) (t : Int) (w : World) (mL : L.length ≤ maxLen) (rL : Rd 3 Tm.cells w A L) :
    Calls Try.prog 10 #[.slice A L.length a, .int .i64 t] w fun e w' => e = .returned (.bool true) ∧ Below w.heap.size w w' := by
  have HL := Lib.hid rL
  have Z : Hid (Below w.heap.size w w) := Below.refl _ _
  clear rL
  go_enter Try.func10, Try.ntmps10
  go_wp2_with (fail)
  refine (szTimedS_at A L.length a _ mL).mono ?_
  rintro e w1 ⟨rfl, rfl⟩
  by_cases hs : (1048576 : Int) - L.length < 0
  · rw [if_pos hs]
    go_wp2
    go_light
    go_ret
    exact ⟨rfl, Z.out⟩
  rw [if_neg hs]
  have hL : L.length ≤ 1048576 := by omega
  have e0 : decide ((1048576 : Int) - (L.length : Int) < 0) = false := by simp; omega
  obtain ⟨⟨R, D⟩, hX⟩ : ∃ Y, Y = tillQ L t := ⟨_, rfl⟩
  have HRL : Hid (R.length ≤ L.length ∧ D.length ≤ L.length) := by have := tillQ_len L t; rw [← hX] at this; exact this
  have HS : Hid (∀ (wx : World) (A' : Option Addr), RdT wx A' L.length L → Calls Try.prog 24 #[.slice A' L.length L.length, .int .i64 t] wx (DoT (R, D) wx)) := fun wx A' h => by rw [hX]; exact specQueueTill A' L.length L t wx (by omega) h
  have HI : Hid (∀ (wx : World) (A' : Option Addr), RdT wx A' L.length L → Calls Try.prog 23 #[.slice A' L.length L.length, .int .i64 t] wx (DoT (R, D) wx)) := fun wx A' h => by rw [hX]; exact implQueueTill A' L.length L t wx (by omega) h
  clear mL hs hX
  go_wp2_with (fail)
  refine (toTimedS A a L _ hL (Rd.below HL.out Z.out)).mono ?_
  rintro e w2 ⟨g1, rfl, hg, o1, hb⟩
  clear hg
  replace Z := Lib.hid (Below.and Z.out hb)
  have OQ := Lib.hid (OwT.bd (show OwT w2 w.heap.size (some ⟨g1, 0, none⟩) L.length L from o1))
  have SOQ := Lib.hid hb.size
  clear o1 hb
  go_wp2_with (fail)
  refine (HS.out _ _ OQ.out.own.rdT).mono ?_
  rintro e w3 ⟨AOW, aOW, AOV, aOV, rfl, o2, hb⟩
  have OW := Lib.hid o2.x.bd
  have OV := Lib.hid o2.d.bd
  have NEOW := Lib.hid o2.ne
  replace Z := Lib.hid (Below.and Z.out hb)
  have SOW := Lib.hid hb.size
  clear o2 hb
  have SW0 := Lib.hid (show w.heap.size ≤ w2.heap.size from SOQ.out)
  clear OQ SOQ NEOW
  go_wp2_with (fail)
  refine (toTimedS A a L _ hL (Rd.below HL.out Z.out)).mono ?_
  rintro e w5 ⟨g2, rfl, hg, o1, hb⟩
  clear hg
  replace Z := Lib.hid (Below.and Z.out hb)
  replace OW := Lib.hid (OW.out.below hb)
  replace OV := Lib.hid (OV.out.below hb)
  have OX := Lib.hid (OwT.bd (show OwT w5 w3.heap.size (some ⟨g2, 0, none⟩) L.length L from o1))
  have SOX := Lib.hid hb.size
  clear o1 hb
  go_wp2_with (fail)
  refine (HI.out _ _ OX.out.own.rdT).mono ?_
  rintro e w6 ⟨AOG, aOG, AOH, aOH, rfl, o2, hb⟩
  have OG := Lib.hid o2.x.bd
  have OH := Lib.hid o2.d.bd
  have NEOG := Lib.hid o2.ne
  replace Z := Lib.hid (Below.and Z.out hb)
  replace OW := Lib.hid (OW.out.below hb)
  replace OV := Lib.hid (OV.out.below hb)
  replace OX := Lib.hid (OX.out.below hb)
  have SOG := Lib.hid hb.size
  clear o2 hb
  go_wp2_with (fail)
  refine (eqTimedS_rd _ _ _ _ _ _ (by have := HRL.out; omega) OG.out.own.rd OW.out.own.rd).mono ?_
  rintro e w7 ⟨rfl, hb⟩
  replace Z := Lib.hid (Below.and Z.out hb)
  replace OW := Lib.hid (OW.out.below hb)
  replace OV := Lib.hid (OV.out.below hb)
  replace OX := Lib.hid (OX.out.below hb)
  replace OG := Lib.hid (OG.out.below hb)
  replace OH := Lib.hid (OH.out.below hb)
  clear hb
  go_wp2_with (fail)
  refine (eqTimedS_rd _ _ _ _ _ _ (by have := HRL.out; omega) OH.out.own.rd OV.out.own.rd).mono ?_
  rintro e w8 ⟨rfl, hb⟩
  replace Z := Lib.hid (Below.and Z.out hb)
  replace OW := Lib.hid (OW.out.below hb)
  replace OV := Lib.hid (OV.out.below hb)
  replace OX := Lib.hid (OX.out.below hb)
  replace OG := Lib.hid (OG.out.below hb)
  replace OH := Lib.hid (OH.out.below hb)
  clear hb
  go_wp2_with (fail)
  refine (toTimedS A a L _ hL (Rd.below HL.out Z.out)).mono ?_
  rintro e w9 ⟨g3, rfl, hg, o1, hb⟩
  clear hg
  replace Z := Lib.hid (Below.and Z.out hb)
  replace OW := Lib.hid (OW.out.below hb)
  replace OV := Lib.hid (OV.out.below hb)
  replace OX := Lib.hid (OX.out.below hb)
  replace OG := Lib.hid (OG.out.below hb)
  replace OH := Lib.hid (OH.out.below hb)
  have OY := Lib.hid (OwT.bd (show OwT w9 w8.heap.size (some ⟨g3, 0, none⟩) L.length L from o1))
  have SOY := Lib.hid hb.size
  clear o1 hb
  go_wp2_with (fail)
  refine (eqTimedS_rd _ _ _ _ _ _ (by omega) OX.out.own.rd OY.out.own.rd).mono ?_
  rintro e wA ⟨rfl, hb⟩
  replace Z := Lib.hid (Below.and Z.out hb)
  replace OW := Lib.hid (OW.out.below hb)
  replace OV := Lib.hid (OV.out.below hb)
  replace OX := Lib.hid (OX.out.below hb)
  replace OG := Lib.hid (OG.out.below hb)
  replace OH := Lib.hid (OH.out.below hb)
  clear hb
  clear OY SOY
  have hRL := HRL.out.1
  have hDL := HRL.out.2
  have ngL : decide ((1 : Int) + 3 * (L.length : Int) < 0) = false := by simp; omega
  have ngR : decide ((1 : Int) + 3 * (R.length : Int) < 0) = false := by simp; omega
  have ngD : decide ((1 : Int) + 3 * (R.length : Int) + 3 * (D.length : Int) < 0) = false := by simp; omega
  have nnD : ((1 : Int) + 3 * (R.length : Int) + 3 * (D.length : Int) != 1 + 3 * (R.length : Int) + 3 * (D.length : Int)) = false := by simp
  go_wp2_with (fail)
  refine (markTimedS _ _ _ L.length _ 1 _ (by omega) (by omega) (by unfold maxLen; omega) (show World.ownsRow _ _ _ _ _ _ _ from OX.out.own)).mono ?_
  rintro e wB ⟨rfl, hm, hg⟩
  have hbk := OX.out.bk
  replace OW := Lib.hid (OW.out.grown hg (fun k hk => by have h1 := hbk k hk; have s1 := SOW.out; have s2 := SOX.out; have s3 := SOG.out; have s4 := SW0.out; omega))
  replace OV := Lib.hid (OV.out.grown hg (fun k hk => by have h1 := hbk k hk; have s1 := SOW.out; have s2 := SOX.out; have s3 := SOG.out; have s4 := SW0.out; omega))
  replace OG := Lib.hid (OG.out.grown hg (fun k hk => by have h1 := hbk k hk; have s1 := SOW.out; have s2 := SOX.out; have s3 := SOG.out; have s4 := SW0.out; omega))
  replace OH := Lib.hid (OH.out.grown hg (fun k hk => by have h1 := hbk k hk; have s1 := SOW.out; have s2 := SOX.out; have s3 := SOG.out; have s4 := SW0.out; omega))
  replace Z := Lib.hid (Z.out.grown hg Z.out.size (fun k hk => by have h1 := hbk k hk; have s1 := SOW.out; have s2 := SOX.out; have s3 := SOG.out; have s4 := SW0.out; omega))
  have MOX := Lib.hid (RdM.of_own hm)
  clear hm hg hbk OX
  go_wp2_with (fail)
  refine (eqTimedS_rd _ _ _ _ _ _ (by have := HRL.out; omega) OG.out.own.rd OW.out.own.rd).mono ?_
  rintro e wC ⟨rfl, hb⟩
  replace Z := Lib.hid (Below.and Z.out hb)
  replace OW := Lib.hid (OW.out.below hb)
  replace OV := Lib.hid (OV.out.below hb)
  replace OG := Lib.hid (OG.out.below hb)
  replace OH := Lib.hid (OH.out.below hb)
  clear hb
  go_wp2_with (fail)
  refine (eqTimedS_rd _ _ _ _ _ _ (by have := HRL.out; omega) OH.out.own.rd OV.out.own.rd).mono ?_
  rintro e wD ⟨rfl, hb⟩
  replace Z := Lib.hid (Below.and Z.out hb)
  replace OW := Lib.hid (OW.out.below hb)
  replace OV := Lib.hid (OV.out.below hb)
  replace OG := Lib.hid (OG.out.below hb)
  replace OH := Lib.hid (OH.out.below hb)
  clear hb
  go_wp2_with (fail)
  refine (markTimedS _ _ _ R.length _ 1 _ (by omega) (by omega) (by unfold maxLen; omega) (show World.ownsRow _ _ _ _ _ _ _ from OG.out.own)).mono ?_
  rintro e wE ⟨rfl, hm, hg⟩
  have hbk := OG.out.bk
  replace OW := Lib.hid (OW.out.grown hg (fun k hk => by have h1 := hbk k hk; have s1 := SOW.out; have s2 := SOX.out; have s3 := SOG.out; have s4 := SW0.out; omega))
  replace OV := Lib.hid (OV.out.grown hg (fun k hk => by have h1 := hbk k hk; have s1 := SOW.out; have s2 := SOX.out; have s3 := SOG.out; have s4 := SW0.out; omega))
  replace OH := Lib.hid (OH.out.sep hg NEOG.out)
  replace Z := Lib.hid (Z.out.grown hg Z.out.size (fun k hk => by have h1 := hbk k hk; have s1 := SOW.out; have s2 := SOX.out; have s3 := SOG.out; have s4 := SW0.out; omega))
  have MOG := Lib.hid (RdM.of_own hm)
  clear hm hg hbk OG
  go_wp2_with (fail)
  refine (markTimedS _ _ _ D.length _ (1 + 3 * (R.length : Int)) _ (by omega) (by omega) (by unfold maxLen; omega) (show World.ownsRow _ _ _ _ _ _ _ from OH.out.own)).mono ?_
  rintro e wF ⟨rfl, hm, hg⟩
  have hbk := OH.out.bk
  replace OW := Lib.hid (OW.out.grown hg (fun k hk => by have h1 := hbk k hk; have s1 := SOW.out; have s2 := SOX.out; have s3 := SOG.out; have s4 := SW0.out; omega))
  replace OV := Lib.hid (OV.out.grown hg (fun k hk => by have h1 := hbk k hk; have s1 := SOW.out; have s2 := SOX.out; have s3 := SOG.out; have s4 := SW0.out; omega))
  have MOG2 : Hid (RdM wF AOG (R.length * 3) 1) := fun p hp => by
    obtain ⟨g, hA, hc⟩ := MOG.out p hp
    have hk : (Value.slice AOG R.length aOG).ownBlock = some g := by rw [hA]; rfl
    exact ⟨g, hA, (cell_grown hg hc (fun e => NEOG.out g hk (by rw [← e]))).trans rfl⟩
  replace MOG := MOG2
  clear MOG2
  replace Z := Lib.hid (Z.out.grown hg Z.out.size (fun k hk => by have h1 := hbk k hk; have s1 := SOW.out; have s2 := SOX.out; have s3 := SOG.out; have s4 := SW0.out; omega))
  have MOH := Lib.hid (RdM.of_own hm)
  clear hm hg hbk OH
  go_wp2_with (fail)
  refine (heldTimedS _ _ R.length 1 _ (by omega) (by omega) (by unfold maxLen; omega) MOG.out).mono ?_
  rintro e wG ⟨rfl, rfl⟩
  go_wp2_with (fail)
  refine (heldTimedS _ _ D.length (1 + 3 * (R.length : Int)) _ (by omega) (by omega) (by unfold maxLen; omega) MOH.out).mono ?_
  rintro e wH ⟨rfl, rfl⟩
  go_wp2_with (fail)
  refine (toTimedS A a L _ hL (Rd.below HL.out Z.out)).mono ?_
  rintro e wI ⟨g4, rfl, hg, o1, hb⟩
  clear hg
  replace Z := Lib.hid (Below.and Z.out hb)
  replace OW := Lib.hid (OW.out.below hb)
  replace OV := Lib.hid (OV.out.below hb)
  have OQ := Lib.hid (OwT.bd (show OwT wI wH.heap.size (some ⟨g4, 0, none⟩) L.length L from o1))
  have SOQ := Lib.hid hb.size
  replace MOG := Lib.hid (RdM.below MOG.out hb)
  replace MOH := Lib.hid (RdM.below MOH.out hb)
  clear o1 hb
  go_wp2_with (fail)
  refine (HI.out _ _ OQ.out.own.rdT).mono ?_
  rintro e wJ ⟨AOJ, aOJ, AOK, aOK, rfl, o2, hb⟩
  have OJ := Lib.hid o2.x.bd
  have OK := Lib.hid o2.d.bd
  have NEOJ := Lib.hid o2.ne
  replace Z := Lib.hid (Below.and Z.out hb)
  replace OW := Lib.hid (OW.out.below hb)
  replace OV := Lib.hid (OV.out.below hb)
  have SOJ := Lib.hid hb.size
  replace MOG := Lib.hid (RdM.below MOG.out hb)
  replace MOH := Lib.hid (RdM.below MOH.out hb)
  clear o2 hb
  clear OQ SOQ NEOJ
  go_wp2_with (fail)
  refine (eqTimedS_rd _ _ _ _ _ _ (by have := HRL.out; omega) OJ.out.own.rd OW.out.own.rd).mono ?_
  rintro e wK ⟨rfl, hb⟩
  replace Z := Lib.hid (Below.and Z.out hb)
  replace OW := Lib.hid (OW.out.below hb)
  replace OV := Lib.hid (OV.out.below hb)
  replace OJ := Lib.hid (OJ.out.below hb)
  replace OK := Lib.hid (OK.out.below hb)
  replace MOG := Lib.hid (RdM.below MOG.out hb)
  replace MOH := Lib.hid (RdM.below MOH.out hb)
  clear hb
  go_wp2_with (fail)
  refine (eqTimedS_rd _ _ _ _ _ _ (by have := HRL.out; omega) OK.out.own.rd OV.out.own.rd).mono ?_
  rintro e wL ⟨rfl, hb⟩
  replace Z := Lib.hid (Below.and Z.out hb)
  replace OW := Lib.hid (OW.out.below hb)
  replace OV := Lib.hid (OV.out.below hb)
  replace OJ := Lib.hid (OJ.out.below hb)
  replace OK := Lib.hid (OK.out.below hb)
  replace MOG := Lib.hid (RdM.below MOG.out hb)
  replace MOH := Lib.hid (RdM.below MOH.out hb)
  clear hb
  go_wp2_with (fail)
  refine (heldTimedS _ _ R.length 1 _ (by omega) (by omega) (by unfold maxLen; omega) MOG.out).mono ?_
  rintro e wM ⟨rfl, rfl⟩
  go_wp2_with (fail)
  refine (heldTimedS _ _ D.length (1 + 3 * (R.length : Int)) _ (by omega) (by omega) (by unfold maxLen; omega) MOH.out).mono ?_
  rintro e wN ⟨rfl, rfl⟩
  go_wp2
  go_light
  go_ret
  exact ⟨rfl, Z.out⟩

end Go.Proofs.Ytgnemgnhjallhaa
