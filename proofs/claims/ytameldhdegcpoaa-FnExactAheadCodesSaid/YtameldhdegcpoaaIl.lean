import Derived.Test.YtameldhdegcpoaaIj
import Derived.Test.YtameldhdegcpoaaIk
import Derived.Test.YtameldhdegcpoaaId
import Derived.Test.YtameldhdegcpoaaHg
namespace Go.Proofs.Ytameldhdegcpoaa
open Go.ChangeShapes Go.WideShapes Go.ChangeAt Go.RowKit
set_option linter.unusedVariables false
set_option linter.unusedSimpArgs false
theorem eqI {w : World} {A B : Option Addr} {c d : Nat} {l : List Int} (hl : l.length ≤ maxLen) (ha : RdI w A l) (hb : RdI w B l) :
 Calls Try.prog 24 #[.slice A l.length c, .slice B l.length d] w fun e w' => e = .returned (.bool true) ∧ Below w.heap.size w w' :=
 (eqIntS A B c d l l w hl hl ha hb).mono fun e w' ⟨h1, m, h2⟩ => ⟨by rw [h1]; simp, by rw [h2]; exact ⟨rfl, rfl, rfl, Nat.le_refl _, fun _ _ => rfl⟩⟩
theorem OwB.ints {w w' : World} {lo hi base n : Nat} {v : Value} {xs : List Value} {A : Option Addr} {a : Nat} {B : Option Addr} {b : Nat} {D T : List Rq} (h : OwB w lo hi A a B b D T) (hm : Mrkd w w' (.slice A D.length a) (.slice B T.length b)) (ho : w.ownsRow base 3 1 v n xs) : w'.ownsRow base 3 1 v n xs :=
 own_same ho (fun x hx => hm.block x (own_block_ge ho x hx).2 (fun e => own_row_ne h.own.d ho (by decide) x e hx) (fun e => own_row_ne h.own.t ho (by decide) x e hx))
theorem acG_short (D T : List Rq) (k : Int) : (acG D T k).length ≤ 60 := by
 unfold acG
 split
 · rename_i h
   have := ahB_len h
   rw [codesG_len]; omega
 · simp
set_option maxRecDepth 100000 in
set_option maxHeartbeats 16000000 in
theorem exactAheadCodesStep (A : Option Addr) (a : Nat) (B : Option Addr) (b : Nat) (D T : List Rq) (k : Int) (w : World) (mD : D.length ≤ maxLen) (mT : T.length ≤ maxLen) (rD : Rd 5 Rq.cells w A D) (rT : Rd 5 Rq.cells w B T) (CS : List Int) (hX : CS = acG D T k) :
 Calls Try.prog 5 #[aheadV A D.length a B T.length b k] w fun e w' => e = .returned (.bool true) ∧ Below w.heap.size w w' := by
 have HR : Hid (RdQ2 w A B D T) := ⟨rD, rT⟩
 have K := Lib.hid (Three.new (u0 := .slice A D.length a) (u1 := .slice B T.length b) (u2 := .int .i64 k) (t := 24) w)
 have Z : Hid (Below w.heap.size w (w.alloc (.cells #[.slice A D.length a, .slice B T.length b, .int .i64 k] 24))) := (Below.refl _ _).alloc (Nat.le_refl _) _
 have hl := acG_short D T k
 rw [← hX] at hl
 have HX := Lib.hid hX
 clear rD rT hX
 go_enter Try.func5, Try.ntmps5
 go_upto_region 2 with (fail)
 obtain ⟨w0, hw0⟩ : ∃ X, X = w.alloc (.cells #[.slice A D.length a, .slice B T.length b, .int .i64 k] 24) := ⟨_, rfl⟩
 rw [← hw0] at K Z ⊢
 clear hw0
 obtain ⟨p0, p1, p2⟩ := K.out.cells
 go_wp2_with (fail)
 refine (szAhead A D.length a B T.length b k _ mD mT).mono ?_
 rintro e w1 ⟨rfl, hb⟩
 clear p0 p1 p2
 replace K := Lib.hid (Three.below K.out hb K.out.lt)
 replace Z := Lib.hid (Below.and Z.out hb)
 clear hb
 by_cases hs : ¬ D.length + T.length ≤ 1048576
 · rw [show szOfA D.length T.length = -1 by unfold szOfA; rw [if_neg hs]]
   go_wp2
   go_light
   go_ret
   exact ⟨rfl, Z.out⟩
 have hD : D.length ≤ 1048576 := by omega
 have hT : T.length ≤ 1048576 := by omega
 rw [show szOfA D.length T.length = 1048576 - (D.length : Int) - (T.length : Int) by unfold szOfA; rw [if_pos (by omega)]]
 have e0 : decide ((1048576 : Int) - (D.length : Int) - (T.length : Int) < 0) = false := by simp; omega
 clear mD mT hs
 have HS0 : Hid (∀ (wx : World) (A' : Option Addr) (a' : Nat) (B' : Option Addr) (b' : Nat), RdAc wx A' a' B' b' D T → Calls Try.prog 22 #[aheadV A' D.length a' B' T.length b' k] wx fun e w' => ∃ Q q, e = .returned (.slice Q CS.length q) ∧ w'.ownsRow wx.heap.size 3 1 (.slice Q CS.length q) CS.length (ints CS) ∧ Below wx.heap.size wx w') := fun wx A' a' B' b' h => by rw [HX.out]; exact specAheadCodes A' a' B' b' D T k wx hD hT h
 have HI : Hid (∀ (wx : World) (A' : Option Addr) (a' : Nat) (B' : Option Addr) (b' : Nat), RdAc wx A' a' B' b' D T → Calls Try.prog 23 #[aheadV A' D.length a' B' T.length b' k] wx fun e w' => ∃ Q q, e = .returned (.slice Q CS.length q) ∧ w'.ownsRow wx.heap.size 3 1 (.slice Q CS.length q) CS.length (ints CS) ∧ Below wx.heap.size wx w') := fun wx A' a' B' b' h => by rw [HX.out]; exact implAheadCodes A' a' B' b' D T k wx hD hT h
 have HM := Lib.hid (show CS.length ≤ maxLen by unfold maxLen; omega)
 clear HX
 obtain ⟨p0, p1, p2⟩ := K.out.cells
 go_wp2_with (fail)
 have hs := toAhead A a B b D T k w1 hD hT (Rd.below HR.out.d Z.out) (Rd.below HR.out.t Z.out)
 refine hs.mono ?_
 clear hs
 rintro e wa ⟨g1, h1, rfl, oa, hb⟩
 clear p0 p1 p2
 have R1 := Lib.hid oa.rdAc
 clear oa
 replace K := Lib.hid (Three.below K.out hb K.out.lt)
 replace Z := Lib.hid (Below.and Z.out hb)
 clear hb
 go_wp2_with (fail)
 have hs := HS0.out _ _ _ _ _ R1.out
 refine hs.mono ?_
 clear hs
 rintro e wb ⟨Q4, q4, rfl, oq, hb⟩
 have QQ4 := Lib.hid oq
 clear oq R1 HS0 e0
 replace K := Lib.hid (Three.below K.out hb K.out.lt)
 replace Z := Lib.hid (Below.and Z.out hb)
 clear hb
 obtain ⟨p0, p1, p2⟩ := K.out.cells
 go_wp2_with (fail)
 have hs := toAhead A a B b D T k wb hD hT (Rd.below HR.out.d Z.out) (Rd.below HR.out.t Z.out)
 refine hs.mono ?_
 clear hs
 rintro e wd ⟨g5, h5, rfl, oa, hb⟩
 clear p0 p1 p2
 obtain ⟨A5, hA5⟩ : ∃ X : Option Addr, X = some ⟨g5, 0, none⟩ := ⟨_, rfl⟩
 obtain ⟨B5, hB5⟩ : ∃ X : Option Addr, X = some ⟨h5, 0, none⟩ := ⟨_, rfl⟩
 obtain ⟨a5, ha5⟩ : ∃ X, X = D.length := ⟨_, rfl⟩
 obtain ⟨b5, hb5⟩ : ∃ X, X = T.length := ⟨_, rfl⟩
 have oa : OwA wd wb.heap.size A5 a5 B5 b5 D T := by rw [hA5, hB5, ha5, hb5]; exact oa
 rw [show aheadV (some ⟨g5, 0, none⟩) D.length D.length (some ⟨h5, 0, none⟩) T.length T.length k = .agg #[.slice A5 D.length a5, .slice B5 T.length b5, .int .i64 k] by rw [hA5, hB5, ha5, hb5]]
 have O5 := Lib.hid oa.bd
 have ZS := Lib.hid (show w.heap.size ≤ wb.heap.size from Z.out.size)
 clear hA5 hB5 ha5 hb5 oa
 replace K := Lib.hid (Three.below K.out hb K.out.lt)
 replace Z := Lib.hid (Below.and Z.out hb)
 replace QQ4 := Lib.hid (own_below QQ4.out hb)
 clear hb
 go_upto_region 7 with (fail)
 have hba : Below wd.heap.size wd (wd.alloc (.cells #[.slice A5 D.length a5, .slice B5 T.length b5, .int .i64 k] 33)) := (Below.refl _ _).alloc (Nat.le_refl _) _
 have T5 := Lib.hid (Three.new (u0 := .slice A5 D.length a5) (u1 := .slice B5 T.length b5) (u2 := .int .i64 k) (t := 33) wd)
 replace K := Lib.hid (Three.below K.out hba K.out.lt)
 replace Z := Lib.hid (Below.and Z.out hba)
 replace QQ4 := Lib.hid (own_below QQ4.out hba)
 replace O5 := Lib.hid (O5.out.below hba)
 clear hba
 obtain ⟨p5, hp5⟩ : ∃ Y, Y = wd.heap.size := ⟨_, rfl⟩
 obtain ⟨we, hwe⟩ : ∃ Y, Y = wd.alloc (.cells #[.slice A5 D.length a5, .slice B5 T.length b5, .int .i64 k] 33) := ⟨_, rfl⟩
 rw [← hwe] at T5 K Z QQ4 O5 ⊢
 rw [← hp5] at T5 ⊢
 clear hwe hp5
 obtain ⟨p0, p1, p2⟩ := T5.out.cells
 go_wp2_with (fail)
 have hs := HI.out _ _ _ _ _ O5.out.own.rdAc
 refine hs.mono ?_
 clear hs
 rintro e wf ⟨Q6, q6, rfl, oq, hb⟩
 clear p0 p1 p2
 have LE := Lib.hid (show w.heap.size ≤ we.heap.size from Z.out.size)
 have hU := fun x hx => (own_block_ge QQ4.out x hx).2
 have U4 := Lib.hid hU
 have QQ6 := Lib.hid oq
 clear oq hU
 replace K := Lib.hid (Three.below K.out hb K.out.lt)
 replace T5 := Lib.hid (Three.below T5.out hb T5.out.lt)
 replace O5 := Lib.hid (O5.out.below hb)
 replace QQ4 := Lib.hid (own_below QQ4.out hb)
 replace Z := Lib.hid (Below.and Z.out hb)
 clear hb
 go_wp2_with (fail)
 refine (eqI HM.out (RdI.of_own QQ6.out) (RdI.of_own QQ4.out)).mono ?_
 rintro e wh ⟨rfl, hb⟩
 replace K := Lib.hid (Three.below K.out hb K.out.lt)
 replace T5 := Lib.hid (Three.below T5.out hb T5.out.lt)
 replace O5 := Lib.hid (O5.out.below hb)
 replace QQ4 := Lib.hid (own_below QQ4.out hb)
 replace QQ6 := Lib.hid (own_below QQ6.out hb)
 replace Z := Lib.hid (Below.and Z.out hb)
 clear hb
 go_upto_region 10 with (fail)
 obtain ⟨p0, p1, p2⟩ := T5.out.cells
 obtain ⟨q0, q1, q2⟩ := K.out.cells
 have lp := T5.out.lt
 have lq := K.out.lt
 refine wp_region_held_drew (S := fun WS => Below wh.heap.size wh WS) (by kernel_rfl) ((Below.refl _ _).drew) (fun hS0 => ?_)
 have HS : Hid (Below wh.heap.size wh wh.drew) := (Below.refl _ _).drew
 obtain ⟨s0, hs0⟩ : ∃ X, X = wh.drew := ⟨_, rfl⟩
 rw [← hs0] at hS0 HS ⊢
 clear hs0
 refine tkI 0 27 (v := ?_) rfl rfl ?_ ?_
 rotate_left
 · intro wS hSw; obtain ⟨hcS, hfS⟩ := bcell hSw; go_simp; (try with_reducible rfl)
 (try simp only [Act.put, pu1, pu2, pu3])
 refine tkI 1 28 (v := ?_) rfl rfl ?_ ?_
 rotate_left
 · intro wS hSw; obtain ⟨hcS, hfS⟩ := bcell hSw; go_simp; (try with_reducible rfl)
 (try simp only [Act.put, pu1, pu2, pu3])
 refine wpAnyH_ready (rs := [2]) (by kernel_rfl) (by simp) ?_
 refine AllReadyH.cons rfl (fun KK hK => ?_) AllReadyH.nil
 go_simp
 have hZ := Below.and Z.out HS.out
 have hs := toAhead A a B b D T k s0 hD hT (Rd.below HR.out.d hZ) (Rd.below HR.out.t hZ)
 refine hs.mono ?_
 clear hs hZ
 rintro e s1 ⟨g3, h3, rfl, oa, hb⟩
 have OA3 := Lib.hid oa
 clear oa
 replace HS := Lib.hid (Below.and HS.out hb)
 clear hb
 refine hK.out _ _ HS.out (fun hS1 => ?_)
 clear hK KK
 (try simp only [Act.put, pu1, pu2, pu3])
 refine wpAnyH_ready (rs := [3]) (by kernel_rfl) (by simp) ?_
 refine AllReadyH.cons rfl (fun KK hK => ?_) AllReadyH.nil
 go_simp
 have hs := eqAhead_rd A5 a5 B5 b5 (some ⟨g3, 0, none⟩) D.length (some ⟨h3, 0, none⟩) T.length D T k s1 hD hT (O5.out.below HS.out).own.rd.1 (O5.out.below HS.out).own.rd.2 OA3.out.rd.1 OA3.out.rd.2
 refine hs.mono ?_
 clear hs
 rintro e s2 ⟨rfl, hb⟩
 replace HS := Lib.hid (Below.and HS.out hb)
 replace OA3 := Lib.hid (OA3.out.below hb)
 clear hb
 refine hK.out _ _ HS.out (fun hS2 => ?_)
 clear hK KK
 (try simp only [Act.put, pu1, pu2, pu3])
 refine tkI 4 31 (v := ?_) rfl rfl ?_ ?_
 rotate_left
 · intro wS hSw; obtain ⟨hcS, hfS⟩ := bcell hSw; go_simp; (try with_reducible rfl)
 (try simp only [Act.put, pu1, pu2, pu3])
 refine wpAnyH_done (by kernel_rfl) ?_ _
 replace K := Lib.hid (Three.below K.out HS.out K.out.lt)
 replace T5 := Lib.hid (Three.below T5.out HS.out T5.out.lt)
 replace O5 := Lib.hid (O5.out.below HS.out)
 replace QQ4 := Lib.hid (own_below QQ4.out HS.out)
 replace QQ6 := Lib.hid (own_below QQ6.out HS.out)
 replace Z := Lib.hid (Below.and Z.out HS.out)
 clear p0 p1 p2 q0 q1 q2 lp lq OA3 HS
 obtain ⟨wi, hwi⟩ : ∃ Y, Y = s2 := ⟨_, rfl⟩
 rw [← hwi] at K T5 O5 QQ4 QQ6 Z ⊢
 clear hwi
 obtain ⟨v8, hv8⟩ : ∃ v : Int, v = 1 + 5 * (D.length : Int) + 5 * (T.length : Int) := ⟨_, rfl⟩
 have v80 : decide (v8 < 0) = false := by simp; omega
 have HV8 := Lib.hid hv8
 clear hv8
 obtain ⟨p0, p1, p2⟩ := T5.out.cells
 go_wp2_with (fail)
 have hs := markAhead k O5.out hD hT
 rw [← HV8.out] at hs
 refine hs.mono ?_
 clear hs
 rintro e wm ⟨rfl, _, hm⟩
 clear p0 p1 p2
 replace K := Lib.hid (O5.out.three hm K.out (by decide))
 replace T5 := Lib.hid (O5.out.three hm T5.out (by decide))
 replace QQ4 := Lib.hid (O5.out.ints hm QQ4.out)
 replace QQ6 := Lib.hid (O5.out.ints hm QQ6.out)
 replace Z := Lib.hid (O5.out.under hm Z.out ZS.out)
 clear hm O5
 go_wp2_with (fail)
 refine (eqI HM.out (RdI.of_own QQ6.out) (RdI.of_own QQ4.out)).mono ?_
 rintro e wn ⟨rfl, hb⟩
 replace K := Lib.hid (Three.below K.out hb K.out.lt)
 replace T5 := Lib.hid (Three.below T5.out hb T5.out.lt)
 replace QQ4 := Lib.hid (own_below QQ4.out hb)
 replace QQ6 := Lib.hid (own_below QQ6.out hb)
 replace Z := Lib.hid (Below.and Z.out hb)
 clear hb
 obtain ⟨v, hv⟩ : ∃ v : Int, v = 1 + (CS.length : Int) := ⟨_, rfl⟩
 have v0 : decide (v < 0) = false := by simp; omega
 have v1 : (v != v) = false := by simp
 have HV := Lib.hid hv
 clear hv v80
 go_wp2_with (fail)
 have hs := markIntS _ Q6 q6 CS.length (ints CS) 1 wn (by omega) (by omega) HM.out QQ6.out
 rw [← HV.out] at hs
 refine hs.mono ?_
 clear hs
 rintro e wo ⟨rfl, ho, hg⟩
 have MR := Lib.hid (RdI.of_own (l := marks 1 CS.length) ho)
 replace K := Lib.hid (K.out.grown hg (fun e => own_typeH QQ6.out K.out (by decide) e.symm))
 replace T5 := Lib.hid (T5.out.grown hg (fun e => own_typeH QQ6.out T5.out (by decide) e.symm))
 replace QQ4 := Lib.hid (app_keepH QQ4.out hg (fun x hx hy => by have := (own_block_ge QQ6.out x hx).1; have := U4.out x hy; omega))
 replace Z := Lib.hid (Z.out.trans (Below.of_grown hg (by have := Z.out.size; omega) (fun x hx => Nat.le_trans LE.out (own_block_ge QQ6.out x hx).1)))
 clear ho hg QQ6
 go_wp2_with (fail)
 have hs := heldIntS Q6 q6 CS.length 1 wo (by omega) (by omega) HM.out MR.out
 rw [← HV.out] at hs
 refine hs.mono ?_
 clear hs
 rintro e wp ⟨rfl, rfl⟩
 obtain ⟨p0, p1, p2⟩ := K.out.cells
 go_wp2_with (fail)
 have hs := toAhead A a B b D T k wp hD hT (Rd.below HR.out.d Z.out) (Rd.below HR.out.t Z.out)
 refine hs.mono ?_
 clear hs
 rintro e wq ⟨g7, h7, rfl, oa, hb⟩
 clear p0 p1 p2
 have R7 := Lib.hid oa.rdAc
 clear oa
 replace QQ4 := Lib.hid (own_below QQ4.out hb)
 replace MR := Lib.hid (RdI.below MR.out hb)
 replace Z := Lib.hid (Below.and Z.out hb)
 clear hb
 go_wp2_with (fail)
 have hs := HI.out _ _ _ _ _ R7.out
 refine hs.mono ?_
 clear hs
 rintro e wr ⟨Q8, q8, rfl, oq, hb⟩
 have QQ8 := Lib.hid oq
 clear oq R7 K T5
 replace QQ4 := Lib.hid (own_below QQ4.out hb)
 replace MR := Lib.hid (RdI.below MR.out hb)
 replace Z := Lib.hid (Below.and Z.out hb)
 clear hb
 go_wp2_with (fail)
 refine (eqI HM.out (RdI.of_own QQ8.out) (RdI.of_own QQ4.out)).mono ?_
 rintro e wx ⟨rfl, hb⟩
 replace MR := Lib.hid (RdI.below MR.out hb)
 replace Z := Lib.hid (Below.and Z.out hb)
 clear hb
 clear QQ4 QQ8
 go_wp2_with (fail)
 have hs := heldIntS Q6 q6 CS.length 1 wx (by omega) (by omega) HM.out MR.out
 rw [← HV.out] at hs
 refine hs.mono ?_
 clear hs
 rintro e wy ⟨rfl, rfl⟩
 go_wp2
 go_light
 go_ret
 exact ⟨rfl, Z.out⟩
theorem exactAheadCodes (A : Option Addr) (a : Nat) (B : Option Addr) (b : Nat) (D T : List Rq) (k : Int) (w : World) (mD : D.length ≤ maxLen) (mT : T.length ≤ maxLen) (rD : Rd 5 Rq.cells w A D) (rT : Rd 5 Rq.cells w B T) :
 Calls Try.prog 5 #[aheadV A D.length a B T.length b k] w fun e w' => e = .returned (.bool true) ∧ Below w.heap.size w w' := exactAheadCodesStep A a B b D T k w mD mT rD rT _ rfl
end Go.Proofs.Ytameldhdegcpoaa
