import Derived.Test.YtameldhdegcpoaaIc
import Derived.Test.YtameldhdegcpoaaHg
import Derived.Test.YtameldhdegcpoaaMU
import Derived.Test.YtameldhdegcpoaaMC
import Derived.Deep.Cut
namespace Go.Proofs.Ytameldhdegcpoaa
open Go.ChangeShapes Go.WideShapes Go.ChangeAt Go.RowKit
set_option linter.unusedVariables false
set_option linter.unusedSimpArgs false
structure RdQ2 (w : World) (A B : Option Addr) (D T : List Rq) : Prop where
 d : Rd 5 Rq.cells w A D
 t : Rd 5 Rq.cells w B T
theorem OwB.keeps {w w' : World} {lo hi : Nat} {A : Option Addr} {a : Nat} {B : Option Addr} {b : Nat} {D T : List Rq} (h : OwB w lo hi A a B b D T) (hm : Mrkd w w' (.slice A D.length a) (.slice B T.length b)) : Keeps lo hi w w' :=
 ⟨hm.os, hm.tape, hm.output, hm.size, fun k hk ho => hm.block k hk (fun e => by have := (own_block_ge h.own.d k e).1; have := h.ud k e; omega) (fun e => by have := (own_block_ge h.own.t k e).1; have := h.ut k e; omega)⟩
set_option maxRecDepth 100000 in
set_option maxHeartbeats 8000000 in
theorem exactAheadGameStep (A : Option Addr) (a : Nat) (B : Option Addr) (b : Nat) (D T : List Rq) (k : Int) (w : World) (mD : D.length ≤ maxLen) (mT : T.length ≤ maxLen) (rD : Rd 5 Rq.cells w A D) (rT : Rd 5 Rq.cells w B T) (E1 : List Fig) (F1 L1 : List Int) (hX : (E1, F1, L1) = agG D T k) :
 Calls Try.prog 3 #[aheadV A D.length a B T.length b k] w fun e w' => e = .returned (.bool true) ∧ Below w.heap.size w w' := by
 have HR : Hid (RdQ2 w A B D T) := ⟨rD, rT⟩
 have K := Lib.hid (Three.new (u0 := .slice A D.length a) (u1 := .slice B T.length b) (u2 := .int .i64 k) (t := 24) w)
 have Z : Hid (Below w.heap.size w (w.alloc (.cells #[.slice A D.length a, .slice B T.length b, .int .i64 k] 24))) := (Below.refl _ _).alloc (Nat.le_refl _) _
 have hl := agG_len D T k
 rw [← hX] at hl
 have HE1 : Hid (E1.length ≤ 4) := hl.1
 have HF1 : Hid (F1.length ≤ 16) := hl.2.1
 have HL1 : Hid (L1.length ≤ 4) := hl.2.2
 have HX := Lib.hid hX
 clear rD rT hl hX
 go_enter Try.func3, Try.ntmps3
 go_upto_region 2 with (fail)
 obtain ⟨w0, hw0⟩ : ∃ X, X = w.alloc (.cells #[.slice A D.length a, .slice B T.length b, .int .i64 k] 24) := ⟨_, rfl⟩
 rw [← hw0] at K Z ⊢
 clear hw0
 obtain ⟨p0, p1, p2⟩ := K.out.cells
 go_wp2_with (fail)
 refine (szAhead A D.length a B T.length b k _ mD mT).mono ?_
 rintro e w1 ⟨rfl, hb⟩
 have K := Lib.hid (Three.below K.out hb K.out.lt)
 have Z := Lib.hid (Below.and Z.out hb)
 clear hb p0 p1 p2
 by_cases hs : ¬ D.length + T.length ≤ 1048576
 · rw [show szOfA D.length T.length = -1 by unfold szOfA; rw [if_neg hs]]
   go_wp2
   go_light
   go_ret
   exact ⟨rfl, Z.out⟩
 have hD : D.length ≤ 1048576 := by omega
 have hT : T.length ≤ 1048576 := by omega
 rw [show szOfA D.length T.length = 1048576 - (D.length : Int) - (T.length : Int) by unfold szOfA; rw [if_pos (by omega)]]
 have e0 : decide ((1048576 : Int) - (D.length : Int) - (T.length : Int) < 0) = false := by simp; omega
 clear mD mT hs
 have HS : Hid (∀ (wx : World) (A' : Option Addr) (a' : Nat) (B' : Option Addr) (b' : Nat), RdAc wx A' a' B' b' D T → Calls Try.prog 12 #[aheadV A' D.length a' B' T.length b' k] wx (AgR (E1, F1, L1) wx)) := fun wx A' a' B' b' h => by rw [HX.out]; exact specAheadGame A' a' B' b' D T k wx hD hT h
 have HI : Hid (∀ (wx : World) (A' : Option Addr) (a' : Nat) (B' : Option Addr) (b' : Nat), RdAc wx A' a' B' b' D T → Calls Try.prog 14 #[aheadV A' D.length a' B' T.length b' k] wx (AgI (E1, F1, L1) wx)) := fun wx A' a' B' b' h => by rw [HX.out]; exact implAheadGame A' a' B' b' D T k wx hD hT h
 clear HX
 obtain ⟨p0, p1, p2⟩ := K.out.cells
 go_wp2_with (fail)
 refine (toAhead A a B b D T k _ hD hT (Rd.below HR.out.d Z.out) (Rd.below HR.out.t Z.out)).mono ?_
 rintro e wa ⟨g1, h1, rfl, oa, hb⟩
 have K := Lib.hid (Three.below K.out hb K.out.lt)
 have Z := Lib.hid (Below.and Z.out hb)
 have R1 := Lib.hid oa.rdAc
 clear hb oa p0 p1 p2
 go_wp2_with (fail)
 refine (HS.out _ _ _ _ _ R1.out).mono ?_
 unfold AgR
 rintro e wb ⟨A4, a4, B4, b4, C4, c4, rfl, g4, hb⟩
 have hba : Below wb.heap.size wb (wb.alloc (.cells #[.slice A4 E1.length a4, .slice B4 F1.length b4, .slice C4 L1.length c4] 29)) := (Below.refl _ _).alloc (Nat.le_refl _) _
 have T4 := Lib.hid (Three.new (u0 := .slice A4 E1.length a4) (u1 := .slice B4 F1.length b4) (u2 := .slice C4 L1.length c4) (t := 29) wb)
 have G4 := Lib.hid (g4.below hba).rd
 have K := Lib.hid (Three.below K.out hb K.out.lt)
 have Z := Lib.hid (Below.and Z.out hb)
 have K := Lib.hid (Three.below K.out hba K.out.lt)
 have Z := Lib.hid (Below.and Z.out hba)
 clear hb hba g4 R1 HS e0
 have PB4 := Lib.hid (show wb.heap.size < (wb.alloc (.cells #[.slice A4 E1.length a4, .slice B4 F1.length b4, .slice C4 L1.length c4] 29)).heap.size by simp)
 unfold gameV
 go_upto_region 6 with (fail)
 obtain ⟨p4, hp4⟩ : ∃ X, X = wb.heap.size := ⟨_, rfl⟩
 obtain ⟨wc, hwc⟩ : ∃ X, X = wb.alloc (.cells #[.slice A4 E1.length a4, .slice B4 F1.length b4, .slice C4 L1.length c4] 29) := ⟨_, rfl⟩
 rw [← hwc] at T4 G4 K Z PB4 ⊢
 rw [← hp4] at T4 PB4 ⊢
 clear hwc hp4
 obtain ⟨p0, p1, p2⟩ := K.out.cells
 go_wp2_with (fail)
 refine (toAhead A a B b D T k _ hD hT (Rd.below HR.out.d Z.out) (Rd.below HR.out.t Z.out)).mono ?_
 rintro e wd ⟨g5, h5, rfl, oa, hb⟩
 obtain ⟨A5, hA5⟩ : ∃ X : Option Addr, X = some ⟨g5, 0, none⟩ := ⟨_, rfl⟩
 obtain ⟨B5, hB5⟩ : ∃ X : Option Addr, X = some ⟨h5, 0, none⟩ := ⟨_, rfl⟩
 obtain ⟨a5, ha5⟩ : ∃ X, X = D.length := ⟨_, rfl⟩
 obtain ⟨b5, hb5⟩ : ∃ X, X = T.length := ⟨_, rfl⟩
 have oa : OwA wd wc.heap.size A5 a5 B5 b5 D T := by rw [hA5, hB5, ha5, hb5]; exact oa
 rw [show aheadV (some ⟨g5, 0, none⟩) D.length D.length (some ⟨h5, 0, none⟩) T.length T.length k = .agg #[.slice A5 D.length a5, .slice B5 T.length b5, .int .i64 k] by rw [hA5, hB5, ha5, hb5]]
 have SW := Lib.hid (show wc.heap.size ≤ wd.heap.size from hb.size)
 have ZS := Lib.hid (show w.heap.size < wc.heap.size from K.out.lt)
 clear hA5 hB5 ha5 hb5 p0 p1 p2
 have hba : Below wd.heap.size wd (wd.alloc (.cells #[.slice A5 D.length a5, .slice B5 T.length b5, .int .i64 k] 33)) := (Below.refl _ _).alloc (Nat.le_refl _) _
 have O5 := Lib.hid (oa.bd.below hba)
 have T5 := Lib.hid (Three.new (u0 := .slice A5 D.length a5) (u1 := .slice B5 T.length b5) (u2 := .int .i64 k) (t := 33) wd)
 have K := Lib.hid (Three.below K.out hb K.out.lt)
 have Z := Lib.hid (Below.and Z.out hb)
 have T4 := Lib.hid (Three.below T4.out hb T4.out.lt)
 have G4 := Lib.hid (G4.out.below hb)
 have K := Lib.hid (Three.below K.out hba K.out.lt)
 have Z := Lib.hid (Below.and Z.out hba)
 have T4 := Lib.hid (Three.below T4.out hba T4.out.lt)
 have G4 := Lib.hid (G4.out.below hba)
 have S5 := Lib.hid (show wd.heap.size ≤ (wd.alloc (.cells #[.slice A5 D.length a5, .slice B5 T.length b5, .int .i64 k] 33)).heap.size from hba.size)
 clear hb hba oa
 go_upto_region 7 with (fail)
 obtain ⟨W4, hW4⟩ : ∃ X, X = wc.heap.size := ⟨_, rfl⟩
 obtain ⟨hi5, hhi⟩ : ∃ X, X = wd.heap.size := ⟨_, rfl⟩
 obtain ⟨p5, hp5⟩ : ∃ X, X = wd.heap.size := ⟨_, rfl⟩
 obtain ⟨we, hwe⟩ : ∃ X, X = wd.alloc (.cells #[.slice A5 D.length a5, .slice B5 T.length b5, .int .i64 k] 33) := ⟨_, rfl⟩
 rw [← hwe] at T4 G4 K Z O5 T5 S5 ⊢
 rw [← hW4] at G4 O5 SW ZS PB4
 rw [← hhi] at O5 S5 SW
 rw [← hp5] at T5 ⊢
 clear hwe hW4 hhi hp5
 obtain ⟨p0, p1, p2⟩ := T5.out.cells
 go_wp2_with (fail)
 refine (HI.out _ _ _ _ _ O5.out.own.rdAc).mono ?_
 unfold AgI
 rintro e wf ⟨A6, a6, B6, b6, C6, c6, rfl, g6, hb⟩
 have hba : Below wf.heap.size wf (wf.alloc (.cells #[.slice A6 E1.length a6, .slice B6 F1.length b6, .slice C6 L1.length c6] 29)) := (Below.refl _ _).alloc (Nat.le_refl _) _
 have T6 := Lib.hid (Three.new (u0 := .slice A6 E1.length a6) (u1 := .slice B6 F1.length b6) (u2 := .slice C6 L1.length c6) (t := 29) wf)
 have G6 := Lib.hid (g6.game.below hba)
 have S56 := Lib.hid (show hi5 ≤ wf.heap.size by have := S5.out; have := hb.size; omega)
 have K := Lib.hid (Three.below K.out hb K.out.lt)
 have Z := Lib.hid (Below.and Z.out hb)
 have T4 := Lib.hid (Three.below T4.out hb T4.out.lt)
 have G4 := Lib.hid (G4.out.below hb)
 have O5 := Lib.hid (O5.out.below hb)
 have T5 := Lib.hid (Three.below T5.out hb T5.out.lt)
 have K := Lib.hid (Three.below K.out hba K.out.lt)
 have Z := Lib.hid (Below.and Z.out hba)
 have T4 := Lib.hid (Three.below T4.out hba T4.out.lt)
 have G4 := Lib.hid (G4.out.below hba)
 have O5 := Lib.hid (O5.out.below hba)
 have T5 := Lib.hid (Three.below T5.out hba T5.out.lt)
 have SE := Lib.hid (show wf.heap.size < (wf.alloc (.cells #[.slice A6 E1.length a6, .slice B6 F1.length b6, .slice C6 L1.length c6] 29)).heap.size by simp)
 have W46 := Lib.hid (show W4 ≤ (wf.alloc (.cells #[.slice A6 E1.length a6, .slice B6 F1.length b6, .slice C6 L1.length c6] 29)).heap.size by have := SW.out; have := S56.out; have := SE.out; omega)
 clear hb hba g6 p0 p1 p2
 unfold gameV
 go_upto_region 8 with (fail)
 obtain ⟨lo6, hlo⟩ : ∃ X, X = we.heap.size := ⟨_, rfl⟩
 obtain ⟨p6, hp6⟩ : ∃ X, X = wf.heap.size := ⟨_, rfl⟩
 obtain ⟨wg, hwg⟩ : ∃ X, X = wf.alloc (.cells #[.slice A6 E1.length a6, .slice B6 F1.length b6, .slice C6 L1.length c6] 29) := ⟨_, rfl⟩
 rw [← hwg] at T4 G4 K Z O5 T5 T6 G6 SE W46 ⊢
 rw [← hp6] at T6 G6 SE S56 ⊢
 rw [← hlo] at G6 S5
 clear hwg hp6 hlo
 have SE := Lib.hid (Nat.le_of_lt SE.out)
 have G6r := Lib.hid G6.out.rd
 obtain ⟨p0, p1, p2⟩ := T6.out.cells
 obtain ⟨q0, q1, q2⟩ := T4.out.cells
 go_wp2_with (fail)
 refine (eqGame_rd G6r.out G4.out (by have := HE1.out; omega) (by have := HF1.out; omega) (by have := HL1.out; omega)).mono ?_
 rintro e wh ⟨rfl, hb⟩
 have K := Lib.hid (Three.below K.out hb K.out.lt)
 have Z := Lib.hid (Below.and Z.out hb)
 have T4 := Lib.hid (Three.below T4.out hb T4.out.lt)
 have G4 := Lib.hid (G4.out.below hb)
 have O5 := Lib.hid (O5.out.below hb)
 have T5 := Lib.hid (Three.below T5.out hb T5.out.lt)
 have T6 := Lib.hid (Three.below T6.out hb T6.out.lt)
 have G6 := Lib.hid (G6.out.below hb)
 have SE := Lib.hid (Nat.le_trans SE.out (hb).size)
 have W46 := Lib.hid (Nat.le_trans W46.out hb.size)
 clear hb p0 p1 p2 q0 q1 q2 G6r
 obtain ⟨p0, p1, p2⟩ := T5.out.cells
 obtain ⟨q0, q1, q2⟩ := K.out.cells
 have lp := T5.out.lt
 have lq := K.out.lt
 go_wp2_with (fail)
 refine wp_region_held_drew (S := fun w1 => Below wh.heap.size wh w1) (by kernel_rfl) ((Below.refl _ _).drew) (fun hq => ?_)
 refine tkI 0 27 (v := ?_) rfl rfl ?_ ?_
 rotate_left
 · intro w1 hSw; obtain ⟨hcS, hfS⟩ := bcell hSw; go_simp; (try with_reducible rfl)
 (try simp only [Act.put, pu1, pu2, pu3])
 refine tkI 1 28 (v := ?_) rfl rfl ?_ ?_
 rotate_left
 · intro w1 hSw; obtain ⟨hcS, hfS⟩ := bcell hSw; go_simp; (try with_reducible rfl)
 (try simp only [Act.put, pu1, pu2, pu3])
 refine wpAnyH_ready (rs := [2]) (by kernel_rfl) (by simp) ?_
 refine AllReadyH.cons rfl (fun K hK => ?_) AllReadyH.nil
 go_simp
 refine (toAhead A a B b D T k _ hD hT (Rd.below HR.out.d (Below.and Z.out hq)) (Rd.below HR.out.t (Below.and Z.out hq))).mono ?_
 rintro e wJ ⟨g3, h3, rfl, oa, hb⟩
 have OQ := Lib.hid oa
 have OY := Lib.hid (O5.out.below (Below.and hq hb))
 clear oa
 refine hK.out _ _ (Below.and hq hb) (fun hq2 => ?_)
 clear hK K
 (try simp only [Act.put, pu1, pu2, pu3])
 refine wpAnyH_ready (rs := [3]) (by kernel_rfl) (by simp) ?_
 refine AllReadyH.cons rfl (fun K hK => ?_) AllReadyH.nil
 go_simp
 refine (eqAhead_rd _ _ _ _ _ _ _ _ D T k _ hD hT OY.out.own.rd.1 OY.out.own.rd.2 OQ.out.rd.1 OQ.out.rd.2).mono ?_
 rintro e wK ⟨rfl, hb⟩
 refine hK.out _ _ (Below.and hq2 hb) (fun hq3 => ?_)
 clear hK K
 (try simp only [Act.put, pu1, pu2, pu3])
 refine tkI 4 31 (v := ?_) rfl rfl ?_ ?_
 rotate_left
 · intro w1 hSw; obtain ⟨hcS, hfS⟩ := bcell hSw; go_simp; (try with_reducible rfl)
 (try simp only [Act.put, pu1, pu2, pu3])
 refine wpAnyH_done (by kernel_rfl) ?_ _
 have hb := hq3
 have K := Lib.hid (Three.below K.out hb K.out.lt)
 have Z := Lib.hid (Below.and Z.out hb)
 have T4 := Lib.hid (Three.below T4.out hb T4.out.lt)
 have G4 := Lib.hid (G4.out.below hb)
 have O5 := Lib.hid (O5.out.below hb)
 have T5 := Lib.hid (Three.below T5.out hb T5.out.lt)
 have T6 := Lib.hid (Three.below T6.out hb T6.out.lt)
 have G6 := Lib.hid (G6.out.below hb)
 have SE := Lib.hid (Nat.le_trans SE.out (hb).size)
 have W46 := Lib.hid (Nat.le_trans W46.out hb.size)
 clear hb hq p0 p1 p2 q0 q1 q2 lp lq
 obtain ⟨p0, p1, p2⟩ := T5.out.cells
 go_wp2_with (fail)
 obtain ⟨v8, hv8⟩ : ∃ v : Int, v = 1 + 5 * (D.length : Int) + 5 * (T.length : Int) := ⟨_, rfl⟩
 have v80 : decide (v8 < 0) = false := by simp; omega
 refine (markAhead k O5.out hD hT).mono ?_
 rintro e wm ⟨rfl, _, hm⟩
 rw [← hv8]
 clear hv8
 have hk := O5.out.keeps hm
 have T4 := Lib.hid (hk.three T4.out (.inl PB4.out))
 have T6 := Lib.hid (hk.three T6.out (.inr S56.out))
 have K := Lib.hid (hk.three K.out (.inl ZS.out))
 have G4 := Lib.hid (G4.out.keeps W46.out hk (Nat.le_refl _))
 have G6 := Lib.hid (G6.out.keeps hk (.inr S5.out))
 have Z := Lib.hid (Z.out.trans (hk.below (B := w.heap.size) (Nat.le_of_lt ZS.out) Z.out.size))
 have SE := Lib.hid (Nat.le_trans SE.out hk.size)
 have W46 := Lib.hid (Nat.le_trans W46.out hk.size)
 clear hk hm O5 T5 p0 p1 p2
 have G6r := Lib.hid G6.out.rd
 obtain ⟨p0, p1, p2⟩ := T6.out.cells
 obtain ⟨q0, q1, q2⟩ := T4.out.cells
 go_wp2_with (fail)
 refine (eqGame_rd G6r.out G4.out (by have := HE1.out; omega) (by have := HF1.out; omega) (by have := HL1.out; omega)).mono ?_
 rintro e wn ⟨rfl, hb⟩
 have K := Lib.hid (Three.below K.out hb K.out.lt)
 have Z := Lib.hid (Below.and Z.out hb)
 have T4 := Lib.hid (Three.below T4.out hb T4.out.lt)
 have G4 := Lib.hid (G4.out.below hb)
 have T6 := Lib.hid (Three.below T6.out hb T6.out.lt)
 have G6 := Lib.hid (G6.out.below hb)
 have SE := Lib.hid (Nat.le_trans SE.out (hb).size)
 have W46 := Lib.hid (Nat.le_trans W46.out hb.size)
 clear hb p0 p1 p2 q0 q1 q2 G6r v80
 obtain ⟨p0, p1, p2⟩ := T6.out.cells
 go_wp2_with (fail)
 obtain ⟨v, hv⟩ : ∃ v : Int, v = 1 + 5 * (E1.length : Int) + (F1.length : Int) + (L1.length : Int) := ⟨_, rfl⟩
 have HV := Lib.hid hv
 have v0 : decide (v < 0) = false := by simp; omega
 have v1 : (v != v) = false := by simp
 refine (mark_game G6.out E1.length F1.length L1.length rfl rfl rfl v hv (by have := HE1.out; omega) (by have := HF1.out; omega) (by have := HL1.out; omega) SE.out).mono ?_
 clear hv
 rintro e wo ⟨rfl, hk, M⟩
 have W6 : W4 ≤ lo6 := Nat.le_trans SW.out S5.out
 have T4 := Lib.hid (hk.three T4.out (.inl (Nat.lt_of_lt_of_le PB4.out W6)))
 have T6 := Lib.hid (hk.three T6.out (.inr (Nat.le_refl _)))
 have K := Lib.hid (hk.three K.out (.inl (Nat.lt_of_lt_of_le ZS.out W6)))
 have G4 := Lib.hid (G4.out.keeps W46.out hk W6)
 have Z := Lib.hid (Z.out.trans (hk.below (B := w.heap.size) (Nat.le_trans (Nat.le_of_lt ZS.out) W6) Z.out.size))
 have M := Lib.hid M
 clear hk p0 p1 p2 G6 SE W6 W46
 obtain ⟨p0, p1, p2⟩ := T6.out.cells
 go_wp2_with (fail)
 refine (held_game E1.length F1.length L1.length M.out v HV.out (by have := HE1.out; omega) (by have := HF1.out; omega) (by have := HL1.out; omega)).mono ?_
 rintro e wp ⟨rfl, hb⟩
 have K := Lib.hid (Three.below K.out hb K.out.lt)
 have T4 := Lib.hid (Three.below T4.out hb T4.out.lt)
 have T6 := Lib.hid (Three.below T6.out hb T6.out.lt)
 have G4 := Lib.hid (G4.out.below hb)
 have Z := Lib.hid (Below.and Z.out hb)
 have M := Lib.hid (M.out.below hb)
 clear hb p0 p1 p2
 obtain ⟨p0, p1, p2⟩ := K.out.cells
 go_wp2_with (fail)
 refine (toAhead A a B b D T k _ hD hT (Rd.below HR.out.d Z.out) (Rd.below HR.out.t Z.out)).mono ?_
 rintro e wq ⟨g7, h7, rfl, oa, hb⟩
 have T4 := Lib.hid (Three.below T4.out hb T4.out.lt)
 have T6 := Lib.hid (Three.below T6.out hb T6.out.lt)
 have G4 := Lib.hid (G4.out.below hb)
 have Z := Lib.hid (Below.and Z.out hb)
 have M := Lib.hid (M.out.below hb)
 have R7 := Lib.hid oa.rdAc
 clear hb oa p0 p1 p2 K
 go_wp2_with (fail)
 refine (HI.out _ _ _ _ _ R7.out).mono ?_
 unfold AgI
 rintro e wr ⟨A8, a8, B8, b8, C8, c8, rfl, g8, hb⟩
 have hba : Below wr.heap.size wr (wr.alloc (.cells #[.slice A8 E1.length a8, .slice B8 F1.length b8, .slice C8 L1.length c8] 29)) := (Below.refl _ _).alloc (Nat.le_refl _) _
 have T8 := Lib.hid (Three.new (u0 := .slice A8 E1.length a8) (u1 := .slice B8 F1.length b8) (u2 := .slice C8 L1.length c8) (t := 29) wr)
 have G8 := Lib.hid ((g8.game.below hba).rd)
 have T4 := Lib.hid (Three.below T4.out hb T4.out.lt)
 have T6 := Lib.hid (Three.below T6.out hb T6.out.lt)
 have G4 := Lib.hid (G4.out.below hb)
 have Z := Lib.hid (Below.and Z.out hb)
 have M := Lib.hid (M.out.below hb)
 have T4 := Lib.hid (Three.below T4.out hba T4.out.lt)
 have T6 := Lib.hid (Three.below T6.out hba T6.out.lt)
 have G4 := Lib.hid (G4.out.below hba)
 have Z := Lib.hid (Below.and Z.out hba)
 have M := Lib.hid (M.out.below hba)
 clear hb hba g8 R7
 unfold gameV
 go_upto_region 25 with (fail)
 obtain ⟨p8, hp8⟩ : ∃ X, X = wr.heap.size := ⟨_, rfl⟩
 obtain ⟨wS, hwS⟩ : ∃ X, X = wr.alloc (.cells #[.slice A8 E1.length a8, .slice B8 F1.length b8, .slice C8 L1.length c8] 29) := ⟨_, rfl⟩
 rw [← hwS] at T4 T6 G4 Z M T8 G8 ⊢
 rw [← hp8] at T8 ⊢
 clear hwS hp8
 obtain ⟨p0, p1, p2⟩ := T8.out.cells
 obtain ⟨q0, q1, q2⟩ := T4.out.cells
 go_wp2_with (fail)
 refine (eqGame_rd G8.out G4.out (by have := HE1.out; omega) (by have := HF1.out; omega) (by have := HL1.out; omega)).mono ?_
 rintro e wt ⟨rfl, hb⟩
 have T6 := Lib.hid (Three.below T6.out hb T6.out.lt)
 have Z := Lib.hid (Below.and Z.out hb)
 have M := Lib.hid (M.out.below hb)
 clear hb p0 p1 p2 q0 q1 q2 G8 T4 T8 G4
 obtain ⟨p0, p1, p2⟩ := T6.out.cells
 go_wp2_with (fail)
 refine (held_game E1.length F1.length L1.length M.out v HV.out (by have := HE1.out; omega) (by have := HF1.out; omega) (by have := HL1.out; omega)).mono ?_
 rintro e wu ⟨rfl, hb⟩
 have Z := Lib.hid (Below.and Z.out hb)
 clear hb p0 p1 p2 T6 M HV
 go_wp2
 go_light
 go_ret
 exact ⟨rfl, Z.out⟩
theorem exactAheadGame (A : Option Addr) (a : Nat) (B : Option Addr) (b : Nat) (D T : List Rq) (k : Int) (w : World) (mD : D.length ≤ maxLen) (mT : T.length ≤ maxLen) (rD : Rd 5 Rq.cells w A D) (rT : Rd 5 Rq.cells w B T) :
 Calls Try.prog 3 #[aheadV A D.length a B T.length b k] w fun e w' => e = .returned (.bool true) ∧ Below w.heap.size w w' := by
 obtain ⟨⟨E1, F1, L1⟩, hX⟩ : ∃ Y : Gm, Y = agG D T k := ⟨_, rfl⟩
 exact exactAheadGameStep A a B b D T k w mD mT rD rT E1 F1 L1 hX
end Go.Proofs.Ytameldhdegcpoaa
