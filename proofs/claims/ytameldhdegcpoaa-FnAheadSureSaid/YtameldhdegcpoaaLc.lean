import Derived.Test.YtameldhdegcpoaaLb
import Derived.Test.YtameldhdegcpoaaIg
import Derived.Test.YtameldhdegcpoaaMR
import Derived.Test.YtameldhdegcpoaaMQ
namespace Go.Proofs.Ytameldhdegcpoaa
open Go.ChangeShapes Go.WideShapes Go.ChangeAt Go.RowKit
set_option linter.unusedVariables false
set_option linter.unusedSimpArgs false
theorem ahB_fold {D T : List Rq} {k : Int} (h : ahB D T k = true) : foldR D = foldG D ∧ foldR (D ++ T) = T.foldl stepF (foldG D) := by
 have h1 := ahB_all h
 have h2 := ahB_len h
 constructor
 · unfold foldR
   rw [if_pos ⟨List.all_eq_true.2 h1.1, by omega⟩]
 · unfold foldR
   rw [if_pos ⟨List.all_eq_true.2 (fun r hr => (List.mem_append.1 hr).elim (fun h => h1.1 r h) (fun h => h1.2 r h)), by rw [List.length_append]; omega⟩]
   exact fold_app D T
theorem OwG.rowed {w w' : World} {lo lo' : Nat} {A : Option Addr} {a : Nat} {B : Option Addr} {b : Nat} {C : Option Addr} {c : Nat} {E : List Fig} {F L : List Int} (h : OwG w lo A a B b C c E F L) {v : Value} {n : Nat} {xs : List Value} (hg : w.grownBy w' v.ownBlock) (ho : w.ownsRow lo' 49 5 v n xs) : OwG w' lo A a B b C c E F L :=
 ⟨app_keepH h.e hg (own_row_ne ho h.e (by decide)), app_keepH h.f hg (own_row_ne ho h.f (by decide)), app_keepH h.l hg (own_row_ne ho h.l (by decide)), h.ef, h.el, h.fl⟩
set_option maxRecDepth 100000 in
set_option maxHeartbeats 40000000 in
theorem lawAheadSure {w : World} {A : Option Addr} {n c : Nat} (hm : n ≤ maxLen) (hc : n ≤ c) (hb : InB w A n) :
 Calls Try.prog 6 #[.slice A n c] w fun e w' => e = .returned (.bool true) ∧ Below w.heap.size w w' := by
 obtain ⟨I, hi, hz0, hz1, hz2⟩ := parts_ofH infoReqH
 have I1 := Lib.hid hi
 have I2 := Lib.hid hz0
 have I3 := Lib.hid hz1
 have I4 := Lib.hid hz2
 clear hi hz0 hz1 hz2
 have HB := Lib.hid hb
 unfold maxLen at hm
 clear hb
 by_cases hn : ¬ n ≤ 1048576
 · have e1 : decide ((1048576 : Int) < (n : Int)) = true := by simp; omega
   go_enter Try.func6, Try.ntmps6
   go_wp2
   go_ret
   exact ⟨rfl, Below.refl _ _⟩
 have hn : n ≤ 1048576 := by omega
 have e1 : decide ((1048576 : Int) < (n : Int)) = false := by simp; omega
 go_enter Try.func6, Try.ntmps6
 go_wp2_with (fail)
 refine (drawAheadSure hn hc HB.out).mono ?_
 rintro e w1 ⟨D1, d, T1, t, D, T, k, rfl, hD, hT, ho, h1⟩
 have Z := Lib.hid h1
 have OA := Lib.hid ho
 clear h1 ho HB
 go_upto_region 4 with (fail)
 have hba : Below w1.heap.size w1 (w1.alloc (.cells #[.slice D1 D.length d, .slice T1 T.length t, .int .i64 k] 33)) := (Below.refl _ _).alloc (Nat.le_refl _) _
 have T3 := Lib.hid (Three.new (u0 := .slice D1 D.length d) (u1 := .slice T1 T.length t) (u2 := .int .i64 k) (t := 33) w1)
 replace OA := Lib.hid (OA.out.below hba)
 replace Z := Lib.hid (Below.and Z.out hba)
 clear hba
 obtain ⟨p3, hp3⟩ : ∃ Y, Y = w1.heap.size := ⟨_, rfl⟩
 obtain ⟨w2, hw2⟩ : ∃ Y, Y = w1.alloc (.cells #[.slice D1 D.length d, .slice T1 T.length t, .int .i64 k] 33) := ⟨_, rfl⟩
 rw [← hw2] at T3 OA Z ⊢
 rw [← hp3] at T3 ⊢
 clear hw2 hp3
 obtain ⟨p0, p1, p2⟩ := T3.out.cells
 obtain ⟨X, hX⟩ : ∃ X, X = suG D T k := ⟨_, rfl⟩
 have hln := suG_len D T k
 rw [← hX] at hln
 have HLN := Lib.hid (show X.1.length ≤ 1048576 ∧ X.2.1.length ≤ 1048576 ∧ X.2.2.length ≤ 1048576 from ⟨by omega, by omega, by omega⟩)
 have HX := Lib.hid hX
 clear hX hln
 go_wp2_with (fail)
 have hs := implAheadSure D1 d T1 t D T k w2 (by omega) (by omega) OA.out.rdAc
 rw [← HX.out] at hs
 refine hs.mono ?_
 clear hs
 unfold AgI
 rintro e w3 ⟨A1, a1, B1, b1, C1, c1, rfl, g1, hb⟩
 have G1 := Lib.hid g1
 replace T3 := Lib.hid (Three.below T3.out hb T3.out.lt)
 replace OA := Lib.hid (OA.out.below hb)
 replace Z := Lib.hid (Below.and Z.out hb)
 clear g1 hb p0 p1 p2
 unfold gameV
 go_upto_region 5 with (fail)
 have hba : Below w3.heap.size w3 (w3.alloc (.cells #[.slice A1 X.1.length a1, .slice B1 X.2.1.length b1, .slice C1 X.2.2.length c1] 29)) := (Below.refl _ _).alloc (Nat.le_refl _) _
 have T4 := Lib.hid (Three.new (u0 := .slice A1 X.1.length a1) (u1 := .slice B1 X.2.1.length b1) (u2 := .slice C1 X.2.2.length c1) (t := 29) w3)
 replace OA := Lib.hid (OA.out.below hba)
 replace Z := Lib.hid (Below.and Z.out hba)
 replace T3 := Lib.hid (Three.below T3.out hba T3.out.lt)
 replace G1 := Lib.hid (G1.out.below hba)
 clear hba
 obtain ⟨p4, hp4⟩ : ∃ Y, Y = w3.heap.size := ⟨_, rfl⟩
 obtain ⟨w5, hw5⟩ : ∃ Y, Y = w3.alloc (.cells #[.slice A1 X.1.length a1, .slice B1 X.2.1.length b1, .slice C1 X.2.2.length c1] 29) := ⟨_, rfl⟩
 rw [← hw5] at T4 OA Z T3 G1 ⊢
 rw [← hp4] at T4 ⊢
 clear hw5 hp4
 obtain ⟨p0, p1, p2⟩ := T3.out.cells
 obtain ⟨r0, r1, r2⟩ := T4.out.cells
 have lp := T3.out.lt
 have lr := T4.out.lt
 rcases hok : ahB D T k with _ | _
 · have HOK := Lib.hid hok
   clear hok
   refine wp_region_held_drew (S := fun WS => Below w5.heap.size w5 WS) (by kernel_rfl) ((Below.refl _ _).drew) (fun hS0 => ?_)
   have HS : Hid (Below w5.heap.size w5 w5.drew) := (Below.refl _ _).drew
   obtain ⟨q0, hq0⟩ : ∃ X, X = w5.drew := ⟨_, rfl⟩
   rw [← hq0] at hS0 HS ⊢
   clear hq0
   refine tkI 0 12 (v := ?_) rfl rfl ?_ ?_
   rotate_left
   · intro wS hSw; obtain ⟨hcS, hfS⟩ := bcell hSw; go_simp; (try with_reducible rfl)
   (try simp only [Act.put, pu1, pu2, pu3])
   refine tkI 1 13 (v := ?_) rfl rfl ?_ ?_
   rotate_left
   · intro wS hSw; obtain ⟨hcS, hfS⟩ := bcell hSw; go_simp; (try with_reducible rfl)
   (try simp only [Act.put, pu1, pu2, pu3])
   refine wpAnyH_ready (rs := [2]) (by kernel_rfl) (by simp) ?_
   refine AllReadyH.cons rfl (fun KK hK => ?_) AllReadyH.nil
   go_simp
   have hs := specAheadSure D1 d T1 t D T k q0 (by omega) (by omega) (OA.out.rdAc.below HS.out)
   rw [← HX.out] at hs
   refine hs.mono ?_
   clear hs
   unfold AgR
   rintro e q1 ⟨A5, a5, B5, b5, C5, c5, rfl, g5, hb⟩
   have G5 := Lib.hid (g5.rd)
   clear g5
   replace HS := Lib.hid (Below.and HS.out hb)
   clear hb
   refine hK.out _ _ HS.out (fun hS1 => ?_)
   clear hK KK
   (try simp only [Act.put, pu1, pu2, pu3])
   refine wpAnyH_ready (rs := [3]) (by kernel_rfl) (by simp) ?_
   refine AllReadyH.cons rfl (fun KK hK => ?_) AllReadyH.nil
   go_simp
   refine (wpGame_rd (G1.out.below HS.out).gmR.rd G5.out HLN.out.1 HLN.out.2.1 HLN.out.2.2).mono ?_
   rintro e q2 ⟨rfl, hb⟩
   replace HS := Lib.hid (Below.and HS.out hb)
   replace G5 := Lib.hid (G5.out.below hb)
   clear hb
   refine hK.out _ _ HS.out (fun hS2 => ?_)
   clear hK KK
   (try simp only [Act.put, pu1, pu2, pu3])
   refine tkI 4 16 (v := ?_) rfl rfl ?_ ?_
   rotate_left
   · intro wS hSw; obtain ⟨hcS, hfS⟩ := bcell hSw; go_simp; (try with_reducible rfl)
   (try simp only [Act.put, pu1, pu2, pu3])
   refine tkI 5 17 (v := ?_) rfl rfl ?_ ?_
   rotate_left
   · intro wS hSw; obtain ⟨hcS, hfS⟩ := bcell hSw; go_simp; (try with_reducible rfl)
   (try simp only [Act.put, pu1, pu2, pu3])
   refine tkI 6 18 (v := ?_) rfl rfl ?_ ?_
   rotate_left
   · intro wS hSw; obtain ⟨hcS, hfS⟩ := bcell hSw; go_simp; (try with_reducible rfl)
   (try simp only [Act.put, pu1, pu2, pu3])
   refine wpAnyH_ready (rs := [7]) (by kernel_rfl) (by simp) ?_
   refine AllReadyH.cons rfl (fun KK hK => ?_) AllReadyH.nil
   go_simp
   have hs := implAheadOk D1 d T1 t D T k q2 (by omega) (by omega) (Rd.below OA.out.rd.1 HS.out) (Rd.below OA.out.rd.2 HS.out)
   rw [HOK.out] at hs
   refine hs.mono ?_
   clear hs
   rintro e q3 ⟨rfl, hb⟩
   replace HS := Lib.hid (Below.and HS.out hb)
   replace G5 := Lib.hid (G5.out.below hb)
   clear hb
   refine hK.out _ _ HS.out (fun hS3 => ?_)
   clear hK KK
   (try simp only [Act.put, pu1, pu2, pu3])
   refine tkI 8 20 (v := ?_) rfl rfl ?_ ?_
   rotate_left
   · intro wS hSw; obtain ⟨hcS, hfS⟩ := bcell hSw; go_simp; (try with_reducible rfl)
   (try simp only [Act.put, pu1, pu2, pu3])
   refine tkI 9 21 (v := ?_) rfl rfl ?_ ?_
   rotate_left
   · intro wS hSw; obtain ⟨hcS, hfS⟩ := bcell hSw; go_simp; (try with_reducible rfl)
   (try simp only [Act.put, pu1, pu2, pu3])
   refine wpAnyH_done (by kernel_rfl) ?_ _
   replace T3 := Lib.hid (Three.below T3.out HS.out T3.out.lt)
   replace OA := Lib.hid (OA.out.below HS.out)
   replace T4 := Lib.hid (Three.below T4.out HS.out T4.out.lt)
   replace G1 := Lib.hid (G1.out.below HS.out)
   replace Z := Lib.hid (Below.and Z.out HS.out)
   clear p0 p1 p2 r0 r1 r2 lp lr G5
   go_upto_region 6 with (fail)
   obtain ⟨w6, hw6⟩ : ∃ Y, Y = q3 := ⟨_, rfl⟩
   rw [← hw6] at T3 OA T4 G1 Z ⊢
   clear hw6 HS
   obtain ⟨p0, p1, p2⟩ := T3.out.cells
   obtain ⟨r0, r1, r2⟩ := T4.out.cells
   have lp := T3.out.lt
   have lr := T4.out.lt
   refine wp_region_held_drew (S := fun WS => Below w6.heap.size w6 WS) (by kernel_rfl) ((Below.refl _ _).drew) (fun hS0 => ?_)
   have HS : Hid (Below w6.heap.size w6 w6.drew) := (Below.refl _ _).drew
   obtain ⟨s0, hs0⟩ : ∃ X, X = w6.drew := ⟨_, rfl⟩
   rw [← hs0] at hS0 HS ⊢
   clear hs0
   refine tkI 0 22 (v := ?_) rfl rfl ?_ ?_
   rotate_left
   · intro wS hSw; obtain ⟨hcS, hfS⟩ := bcell hSw; go_simp; (try with_reducible rfl)
   (try simp only [Act.put, pu1, pu2, pu3])
   refine tkI 1 23 (v := ?_) rfl rfl ?_ ?_
   rotate_left
   · intro wS hSw; obtain ⟨hcS, hfS⟩ := bcell hSw; go_simp; (try with_reducible rfl)
   (try simp only [Act.put, pu1, pu2, pu3])
   refine wpAnyH_ready (rs := [2]) (by kernel_rfl) (by simp) ?_
   refine AllReadyH.cons rfl (fun KK hK => ?_) AllReadyH.nil
   go_simp
   have hs := specAheadSure D1 d T1 t D T k s0 (by omega) (by omega) (OA.out.rdAc.below HS.out)
   rw [← HX.out] at hs
   refine hs.mono ?_
   clear hs
   unfold AgR
   rintro e s1 ⟨A5, a5, B5, b5, C5, c5, rfl, g5, hb⟩
   have G5 := Lib.hid (g5.rd)
   clear g5
   replace HS := Lib.hid (Below.and HS.out hb)
   clear hb
   refine hK.out _ _ HS.out (fun hS1 => ?_)
   clear hK KK
   (try simp only [Act.put, pu1, pu2, pu3])
   refine wpAnyH_ready (rs := [3]) (by kernel_rfl) (by simp) ?_
   refine AllReadyH.cons rfl (fun KK hK => ?_) AllReadyH.nil
   go_simp
   refine (wpGame_rd (G1.out.below HS.out).gmR.rd G5.out HLN.out.1 HLN.out.2.1 HLN.out.2.2).mono ?_
   rintro e s2 ⟨rfl, hb⟩
   replace HS := Lib.hid (Below.and HS.out hb)
   replace G5 := Lib.hid (G5.out.below hb)
   clear hb
   refine hK.out _ _ HS.out (fun hS2 => ?_)
   clear hK KK
   (try simp only [Act.put, pu1, pu2, pu3])
   refine tkI 4 2 (v := ?_) rfl rfl ?_ ?_
   rotate_left
   · intro wS hSw; obtain ⟨hcS, hfS⟩ := bcell hSw; go_simp; (try with_reducible rfl)
   (try simp only [Act.put, pu1, pu2, pu3])
   refine wpAnyH_done (by kernel_rfl) ?_ _
   replace T3 := Lib.hid (Three.below T3.out HS.out T3.out.lt)
   replace OA := Lib.hid (OA.out.below HS.out)
   replace T4 := Lib.hid (Three.below T4.out HS.out T4.out.lt)
   replace G1 := Lib.hid (G1.out.below HS.out)
   replace Z := Lib.hid (Below.and Z.out HS.out)
   clear p0 p1 p2 r0 r1 r2 lp lr
   go_wp2
   go_light
   go_ret
   exact ⟨rfl, Z.out⟩
 · have HOK := Lib.hid hok
   have HFD := Lib.hid ((ahB_fold hok).1.trans (show foldG D = X by rw [HX.out]; unfold suG; rw [if_pos hok]))
   have hln := agG_len D T k
   have HAG := Lib.hid (show agG D T k = T.foldl stepF (foldG D) by unfold agG; rw [if_pos hok])
   have HFT := Lib.hid (ahB_fold hok).2
   obtain ⟨Y, hY⟩ : ∃ Y, Y = T.foldl stepF (foldG D) := ⟨_, rfl⟩
   replace HAG := Lib.hid (show agG D T k = Y by rw [hY]; exact HAG.out)
   replace HFT := Lib.hid (show foldR (D ++ T) = Y by rw [hY]; exact HFT.out)
   rw [HAG.out] at hln
   have HLG := Lib.hid (show Y.1.length ≤ 1048576 ∧ Y.2.1.length ≤ 1048576 ∧ Y.2.2.length ≤ 1048576 from ⟨by omega, by omega, by omega⟩)
   obtain ⟨DT, hDT⟩ : ∃ Y, Y = D ++ T := ⟨_, rfl⟩
   have HDT := Lib.hid (show DT.length = D.length + T.length by rw [hDT]; exact List.length_append)
   rw [← hDT] at HFT
   have HDA := Lib.hid hDT
   clear hDT
   clear hok hY hln
   refine wp_region_held_drew (S := fun WS => Below w5.heap.size w5 WS) (by kernel_rfl) ((Below.refl _ _).drew) (fun hS0 => ?_)
   have HS : Hid (Below w5.heap.size w5 w5.drew) := (Below.refl _ _).drew
   obtain ⟨q0, hq0⟩ : ∃ X, X = w5.drew := ⟨_, rfl⟩
   rw [← hq0] at hS0 HS ⊢
   clear hq0
   refine tkI 0 12 (v := ?_) rfl rfl ?_ ?_
   rotate_left
   · intro wS hSw; obtain ⟨hcS, hfS⟩ := bcell hSw; go_simp; (try with_reducible rfl)
   (try simp only [Act.put, pu1, pu2, pu3])
   refine tkI 1 13 (v := ?_) rfl rfl ?_ ?_
   rotate_left
   · intro wS hSw; obtain ⟨hcS, hfS⟩ := bcell hSw; go_simp; (try with_reducible rfl)
   (try simp only [Act.put, pu1, pu2, pu3])
   refine wpAnyH_ready (rs := [2]) (by kernel_rfl) (by simp) ?_
   refine AllReadyH.cons rfl (fun KK hK => ?_) AllReadyH.nil
   go_simp
   have hs := specAheadSure D1 d T1 t D T k q0 (by omega) (by omega) (OA.out.rdAc.below HS.out)
   rw [← HX.out] at hs
   refine hs.mono ?_
   clear hs
   unfold AgR
   rintro e q1 ⟨A5, a5, B5, b5, C5, c5, rfl, g5, hb⟩
   have G5 := Lib.hid (g5.rd)
   clear g5
   replace HS := Lib.hid (Below.and HS.out hb)
   clear hb
   refine hK.out _ _ HS.out (fun hS1 => ?_)
   clear hK KK
   (try simp only [Act.put, pu1, pu2, pu3])
   refine wpAnyH_ready (rs := [3]) (by kernel_rfl) (by simp) ?_
   refine AllReadyH.cons rfl (fun KK hK => ?_) AllReadyH.nil
   go_simp
   refine (wpGame_rd (G1.out.below HS.out).gmR.rd G5.out HLN.out.1 HLN.out.2.1 HLN.out.2.2).mono ?_
   rintro e q2 ⟨rfl, hb⟩
   replace HS := Lib.hid (Below.and HS.out hb)
   replace G5 := Lib.hid (G5.out.below hb)
   clear hb
   refine hK.out _ _ HS.out (fun hS2 => ?_)
   clear hK KK
   (try simp only [Act.put, pu1, pu2, pu3])
   refine tkI 4 16 (v := ?_) rfl rfl ?_ ?_
   rotate_left
   · intro wS hSw; obtain ⟨hcS, hfS⟩ := bcell hSw; go_simp; (try with_reducible rfl)
   (try simp only [Act.put, pu1, pu2, pu3])
   refine tkI 5 17 (v := ?_) rfl rfl ?_ ?_
   rotate_left
   · intro wS hSw; obtain ⟨hcS, hfS⟩ := bcell hSw; go_simp; (try with_reducible rfl)
   (try simp only [Act.put, pu1, pu2, pu3])
   refine tkI 6 18 (v := ?_) rfl rfl ?_ ?_
   rotate_left
   · intro wS hSw; obtain ⟨hcS, hfS⟩ := bcell hSw; go_simp; (try with_reducible rfl)
   (try simp only [Act.put, pu1, pu2, pu3])
   refine wpAnyH_ready (rs := [7]) (by kernel_rfl) (by simp) ?_
   refine AllReadyH.cons rfl (fun KK hK => ?_) AllReadyH.nil
   go_simp
   have hs := implAheadOk D1 d T1 t D T k q2 (by omega) (by omega) (Rd.below OA.out.rd.1 HS.out) (Rd.below OA.out.rd.2 HS.out)
   rw [HOK.out] at hs
   refine hs.mono ?_
   clear hs
   rintro e q3 ⟨rfl, hb⟩
   replace HS := Lib.hid (Below.and HS.out hb)
   replace G5 := Lib.hid (G5.out.below hb)
   clear hb
   refine hK.out _ _ HS.out (fun hS3 => ?_)
   clear hK KK
   (try simp only [Act.put, pu1, pu2, pu3])
   refine tkI 8 20 (v := ?_) rfl rfl ?_ ?_
   rotate_left
   · intro wS hSw; obtain ⟨hcS, hfS⟩ := bcell hSw; go_simp; (try with_reducible rfl)
   (try simp only [Act.put, pu1, pu2, pu3])
   refine tkI 9 21 (v := ?_) rfl rfl ?_ ?_
   rotate_left
   · intro wS hSw; obtain ⟨hcS, hfS⟩ := bcell hSw; go_simp; (try with_reducible rfl)
   (try simp only [Act.put, pu1, pu2, pu3])
   refine wpAnyH_done (by kernel_rfl) ?_ _
   replace T3 := Lib.hid (Three.below T3.out HS.out T3.out.lt)
   replace OA := Lib.hid (OA.out.below HS.out)
   replace T4 := Lib.hid (Three.below T4.out HS.out T4.out.lt)
   replace G1 := Lib.hid (G1.out.below HS.out)
   replace Z := Lib.hid (Below.and Z.out HS.out)
   clear p0 p1 p2 r0 r1 r2 lp lr G5
   go_upto_region 7 with (fail)
   obtain ⟨w6, hw6⟩ : ∃ Y, Y = q3 := ⟨_, rfl⟩
   rw [← hw6] at T3 OA T4 G1 Z ⊢
   clear hw6 HS
   obtain ⟨p0, p1, p2⟩ := T3.out.cells
   obtain ⟨r0, r1, r2⟩ := T4.out.cells
   have lp := T3.out.lt
   have lr := T4.out.lt
   refine wp_region_held_drew (S := fun WS => Below w6.heap.size w6 WS) (by kernel_rfl) ((Below.refl _ _).drew) (fun hS0 => ?_)
   have HS : Hid (Below w6.heap.size w6 w6.drew) := (Below.refl _ _).drew
   obtain ⟨s0, hs0⟩ : ∃ X, X = w6.drew := ⟨_, rfl⟩
   rw [← hs0] at hS0 HS ⊢
   clear hs0
   refine tkI 0 26 (v := ?_) rfl rfl ?_ ?_
   rotate_left
   · intro wS hSw; obtain ⟨hcS, hfS⟩ := bcell hSw; go_simp; (try with_reducible rfl)
   (try simp only [Act.put, pu1, pu2, pu3])
   refine tkI 1 27 (v := ?_) rfl rfl ?_ ?_
   rotate_left
   · intro wS hSw; obtain ⟨hcS, hfS⟩ := bcell hSw; go_simp; (try with_reducible rfl)
   (try simp only [Act.put, pu1, pu2, pu3])
   refine tkI 2 28 (v := ?_) rfl rfl ?_ ?_
   rotate_left
   · intro wS hSw; obtain ⟨hcS, hfS⟩ := bcell hSw; go_simp; (try with_reducible rfl)
   (try simp only [Act.put, pu1, pu2, pu3])
   refine wpAnyH_ready (rs := [3]) (by kernel_rfl) (by simp) ?_
   refine AllReadyH.cons rfl (fun KK hK => ?_) AllReadyH.nil
   go_simp
   have hs := implGameFold D1 d D s0 (by omega) OA.out.rdAc.cd (Rd.below OA.out.rd.1 HS.out)
   rw [HFD.out] at hs
   refine hs.mono ?_
   clear hs
   rintro e s1 ⟨A5, a5, B5, b5, C5, c5, rfl, g5, hb⟩
   have G5 := Lib.hid (g5.gmR.rd)
   clear g5
   replace HS := Lib.hid (Below.and HS.out hb)
   clear hb
   refine hK.out _ _ HS.out (fun hS1 => ?_)
   clear hK KK
   (try simp only [Act.put, pu1, pu2, pu3])
   refine wpAnyH_ready (rs := [4]) (by kernel_rfl) (by simp) ?_
   refine AllReadyH.cons rfl (fun KK hK => ?_) AllReadyH.nil
   go_simp
   refine (wpGame_rd (G1.out.below HS.out).gmR.rd G5.out HLN.out.1 HLN.out.2.1 HLN.out.2.2).mono ?_
   rintro e s2 ⟨rfl, hb⟩
   replace HS := Lib.hid (Below.and HS.out hb)
   replace G5 := Lib.hid (G5.out.below hb)
   clear hb
   refine hK.out _ _ HS.out (fun hS2 => ?_)
   clear hK KK
   (try simp only [Act.put, pu1, pu2, pu3])
   refine tkI 5 31 (v := ?_) rfl rfl ?_ ?_
   rotate_left
   · intro wS hSw; obtain ⟨hcS, hfS⟩ := bcell hSw; go_simp; (try with_reducible rfl)
   (try simp only [Act.put, pu1, pu2, pu3])
   refine tkI 6 32 (v := ?_) rfl rfl ?_ ?_
   rotate_left
   · intro wS hSw; obtain ⟨hcS, hfS⟩ := bcell hSw; go_simp; (try with_reducible rfl)
   (try simp only [Act.put, pu1, pu2, pu3])
   refine tkI 9 35 (v := ?_) rfl rfl ?_ ?_
   rotate_left
   · intro wS hSw; obtain ⟨hcS, hfS⟩ := bcell hSw; go_simp; (try with_reducible rfl)
   (try simp only [Act.put, pu1, pu2, pu3])
   refine tkI 10 36 (v := ?_) rfl rfl ?_ ?_
   rotate_left
   · intro wS hSw; obtain ⟨hcS, hfS⟩ := bcell hSw; go_simp; (try with_reducible rfl)
   (try simp only [Act.put, pu1, pu2, pu3])
   refine tkI 12 38 (v := ?_) rfl rfl ?_ ?_
   rotate_left
   · intro wS hSw; obtain ⟨hcS, hfS⟩ := bcell hSw; go_simp; (try with_reducible rfl)
   (try simp only [Act.put, pu1, pu2, pu3])
   refine tkI 13 39 (v := ?_) rfl rfl ?_ ?_
   rotate_left
   · intro wS hSw; obtain ⟨hcS, hfS⟩ := bcell hSw; go_simp; (try with_reducible rfl)
   (try simp only [Act.put, pu1, pu2, pu3])
   refine wpAnyH_ready (rs := [7, 8]) (by kernel_rfl) (by simp) ?_
   refine AllReadyH.cons rfl (fun KK hK => ?_) (AllReadyH.cons rfl (fun KK hK => ?_) AllReadyH.nil)
   · go_simp
     have hs := implAheadGame D1 d T1 t D T k s2 (by omega) (by omega) (OA.out.rdAc.below HS.out)
     rw [HAG.out] at hs
     refine hs.mono ?_
     clear hs
     unfold AgI
     rintro e s3 ⟨A6, a6, B6, b6, C6, c6, rfl, g6, hb⟩
     have G6 := Lib.hid g6
     clear g6
     replace HS := Lib.hid (Below.and HS.out hb)
     replace G5 := Lib.hid (G5.out.below hb)
     clear hb
     refine hK.out _ _ HS.out (fun hS3 => ?_)
     clear hK KK
     (try simp only [Act.put, pu1, pu2, pu3])
     refine wpAnyH_ready (rs := [8]) (by kernel_rfl) (by simp) ?_
     refine AllReadyH.cons rfl (fun KK hK => ?_) AllReadyH.nil
     go_simp
     have hb : Below s3.heap.size s3 (s3.alloc (.cells #[] 49)) := (Below.refl _ _).alloc (Nat.le_refl _) _
     have OO : Hid ((s3.alloc (.cells #[] 49)).ownsRow s3.heap.size 49 5 (.slice (some ⟨s3.heap.size, 0, none⟩) 0 0) 0 []) := own_nil_newH s3 49 5 rfl
     have LO : Hid (s3.heap.size ≤ (s3.alloc (.cells #[] 49)).heap.size) := hb.size
     have HWL : Hid (w6.heap.size ≤ s3.heap.size) := HS.out.size
     obtain ⟨s4, hs4⟩ : ∃ X, X = s3.alloc (.cells #[] 49) := ⟨_, rfl⟩
     rw [← hs4] at hb OO LO ⊢
     clear hs4
     obtain ⟨lo, hlo⟩ : ∃ X, X = s3.heap.size := ⟨_, rfl⟩
     rw [← hlo] at OO LO HWL ⊢
     clear hlo
     replace HS := Lib.hid (Below.and HS.out hb)
     replace G5 := Lib.hid (G5.out.below hb)
     replace G6 := Lib.hid (G6.out.below hb)
     clear hb
     refine hK.out _ _ HS.out (fun hS4 => ?_)
     clear hK KK
     (try simp only [Act.put, pu1, pu2, pu3])
     refine wpAnyH_ready (rs := [11]) (by kernel_rfl) (by simp) ?_
     refine AllReadyH.cons rfl (fun KK hK => ?_) AllReadyH.nil
     have HRL := Lib.hid (Rd.below OA.out.rd.1 HS.out)
     have OP := OO
     refine step_appG (k := 5) (f := Rq.cells) (fun _ => rfl) (by rfl) _ _ 31 (by rfl) lo 49 I (.agg #[.int .i64 0, .int .i64 0, .int .i64 0, .int .i64 0, .int .i64 0]) 40 Try.underlying31 I1.out I2.out I3.out I4.out (by rfl) (by omega) _ 0 [] (by rfl) OO.out _ _ _ D rfl (by rfl) HRL.out OA.out.rdA.nA (reqs_oneH _) (by unfold maxLen; omega) (by omega) LO.out ?_
     clear HRL
     intro v' s5 ho hg hp
     have hB := Below.of_grown hg LO.out (fun x hx => (own_block_ge OO.out x hx).1)
     obtain ⟨AX, cx, rfl⟩ := own_formH ho
     have OO : Hid (s5.ownsRow lo 49 5 (.slice AX (0 + D.length) cx) (0 + D.length) (D.flatMap Rq.cells)) := ho
     rw [Nat.zero_add] at OO ⊢
     replace HS := Lib.hid (HS.out.trans (hB.mono HWL.out))
     clear G5
     replace G6 := Lib.hid (OwG.rowed G6.out hg OP.out)
     replace LO := Lib.hid (Nat.le_trans LO.out hg.size)
     clear hB hg ho hp OP
     refine hK.out _ _ HS.out (fun hS5 => ?_)
     clear hK KK
     (try simp only [Act.put, pu1, pu2, pu3])
     refine wpAnyH_ready (rs := [14]) (by kernel_rfl) (by simp) ?_
     refine AllReadyH.cons rfl (fun KK hK => ?_) AllReadyH.nil
     have HRL := Lib.hid (Rd.below OA.out.rd.2 HS.out)
     have OP := OO
     refine step_appG (k := 5) (f := Rq.cells) (fun _ => rfl) (by rfl) _ _ 31 (by rfl) lo 49 I (.agg #[.int .i64 0, .int .i64 0, .int .i64 0, .int .i64 0, .int .i64 0]) 40 Try.underlying31 I1.out I2.out I3.out I4.out (by rfl) (by omega) _ D.length (D.flatMap Rq.cells) (by rfl) OO.out _ _ _ T rfl (by rfl) HRL.out OA.out.rdA.nB (reqs_oneH _) (by unfold maxLen; omega) (by omega) LO.out ?_
     clear HRL
     intro v' s6 ho hg hp
     have hB := Below.of_grown hg LO.out (fun x hx => (own_block_ge OO.out x hx).1)
     obtain ⟨AX, cx, rfl⟩ := own_formH ho
     have OO : Hid (s6.ownsRow lo 49 5 (.slice AX DT.length cx) DT.length (DT.flatMap Rq.cells)) := by
      rw [HDA.out, List.flatMap_append, List.length_append]
      exact ho
     rw [← HDT.out]
     replace HS := Lib.hid (HS.out.trans (hB.mono HWL.out))
     replace G6 := Lib.hid (OwG.rowed G6.out hg OP.out)
     replace LO := Lib.hid (Nat.le_trans LO.out hg.size)
     clear hB hg ho hp OP
     refine hK.out _ _ HS.out (fun hS6 => ?_)
     clear hK KK
     (try simp only [Act.put, pu1, pu2, pu3])
     refine wpAnyH_ready (rs := [15]) (by kernel_rfl) (by simp) ?_
     refine AllReadyH.cons rfl (fun KK hK => ?_) AllReadyH.nil
     go_simp
     have HCO := Lib.hid (own_cap OO.out).1
     have HRO := Lib.hid (Rd.of_own (f := Rq.cells) (k := 5) (fun _ => rfl) OO.out rfl)
     have hs := implGameFold AX cx DT s6 (by rw [HDT.out]; omega) HCO.out HRO.out
     rw [HFT.out] at hs
     refine hs.mono ?_
     clear hs HCO HRO
     rintro e s7 ⟨A7, a7, B7, b7, C7, c7, rfl, g7, hb⟩
     have G7 := Lib.hid g7.gmR.rd
     clear g7
     replace HS := Lib.hid (Below.and HS.out hb)
     replace G6 := Lib.hid (G6.out.below hb)
     replace OO := Lib.hid (own_below OO.out hb)
     replace LO := Lib.hid (Nat.le_trans LO.out hb.size)
     clear hb
     refine hK.out _ _ HS.out (fun hS7 => ?_)
     clear hK KK
     (try simp only [Act.put, pu1, pu2, pu3])
     refine wpAnyH_ready (rs := [16]) (by kernel_rfl) (by simp) ?_
     refine AllReadyH.cons rfl (fun KK hK => ?_) AllReadyH.nil
     go_simp
     refine (wpGame_rd G6.out.gmR.rd G7.out HLG.out.1 HLG.out.2.1 HLG.out.2.2).mono ?_
     rintro e s8 ⟨rfl, hb⟩
     replace HS := Lib.hid (Below.and HS.out hb)
     replace G6 := Lib.hid (G6.out.below hb)
     replace OO := Lib.hid (own_below OO.out hb)
     replace LO := Lib.hid (Nat.le_trans LO.out hb.size)
     replace G7 := Lib.hid (G7.out.below hb)
     clear hb
     refine hK.out _ _ HS.out (fun hS8 => ?_)
     clear hK KK
     (try simp only [Act.put, pu1, pu2, pu3])
     refine tkI 17 43 (v := ?_) rfl rfl ?_ ?_
     rotate_left
     · intro wS hSw; obtain ⟨hcS, hfS⟩ := bcell hSw; go_simp; (try with_reducible rfl)
     (try simp only [Act.put, pu1, pu2, pu3])
     refine tkI 18 2 (v := ?_) rfl rfl ?_ ?_
     rotate_left
     · intro wS hSw; obtain ⟨hcS, hfS⟩ := bcell hSw; go_simp; (try with_reducible rfl)
     (try simp only [Act.put, pu1, pu2, pu3])
     refine wpAnyH_done (by kernel_rfl) ?_ _
     replace T3 := Lib.hid (Three.below T3.out HS.out T3.out.lt)
     replace OA := Lib.hid (OA.out.below HS.out)
     replace T4 := Lib.hid (Three.below T4.out HS.out T4.out.lt)
     replace G1 := Lib.hid (G1.out.below HS.out)
     replace Z := Lib.hid (Below.and Z.out HS.out)
     clear p0 p1 p2 r0 r1 r2 lp lr
     go_wp2
     go_light
     go_ret
     exact ⟨rfl, Z.out⟩
   · go_simp
     have hb : Below s2.heap.size s2 (s2.alloc (.cells #[] 49)) := (Below.refl _ _).alloc (Nat.le_refl _) _
     have OO : Hid ((s2.alloc (.cells #[] 49)).ownsRow s2.heap.size 49 5 (.slice (some ⟨s2.heap.size, 0, none⟩) 0 0) 0 []) := own_nil_newH s2 49 5 rfl
     have LO : Hid (s2.heap.size ≤ (s2.alloc (.cells #[] 49)).heap.size) := hb.size
     have HWL : Hid (w6.heap.size ≤ s2.heap.size) := HS.out.size
     obtain ⟨s3, hs3⟩ : ∃ X, X = s2.alloc (.cells #[] 49) := ⟨_, rfl⟩
     rw [← hs3] at hb OO LO ⊢
     clear hs3
     obtain ⟨lo, hlo⟩ : ∃ X, X = s2.heap.size := ⟨_, rfl⟩
     rw [← hlo] at OO LO HWL ⊢
     clear hlo
     replace HS := Lib.hid (Below.and HS.out hb)
     replace G5 := Lib.hid (G5.out.below hb)
     clear hb
     refine hK.out _ _ HS.out (fun hS3 => ?_)
     clear hK KK
     (try simp only [Act.put, pu1, pu2, pu3])
     refine wpAnyH_ready (rs := [7]) (by kernel_rfl) (by simp) ?_
     refine AllReadyH.cons rfl (fun KK hK => ?_) AllReadyH.nil
     go_simp
     have hs := implAheadGame D1 d T1 t D T k s3 (by omega) (by omega) (OA.out.rdAc.below HS.out)
     rw [HAG.out] at hs
     refine hs.mono ?_
     clear hs
     unfold AgI
     rintro e s4 ⟨A6, a6, B6, b6, C6, c6, rfl, g6, hb⟩
     have G6 := Lib.hid g6
     clear g6
     replace HS := Lib.hid (Below.and HS.out hb)
     replace G5 := Lib.hid (G5.out.below hb)
     replace OO := Lib.hid (own_below OO.out hb)
     replace LO := Lib.hid (Nat.le_trans LO.out hb.size)
     clear hb
     refine hK.out _ _ HS.out (fun hS4 => ?_)
     clear hK KK
     (try simp only [Act.put, pu1, pu2, pu3])
     refine wpAnyH_ready (rs := [11]) (by kernel_rfl) (by simp) ?_
     refine AllReadyH.cons rfl (fun KK hK => ?_) AllReadyH.nil
     have HRL := Lib.hid (Rd.below OA.out.rd.1 HS.out)
     have OP := OO
     refine step_appG (k := 5) (f := Rq.cells) (fun _ => rfl) (by rfl) _ _ 31 (by rfl) lo 49 I (.agg #[.int .i64 0, .int .i64 0, .int .i64 0, .int .i64 0, .int .i64 0]) 40 Try.underlying31 I1.out I2.out I3.out I4.out (by rfl) (by omega) _ 0 [] (by rfl) OO.out _ _ _ D rfl (by rfl) HRL.out OA.out.rdA.nA (reqs_oneH _) (by unfold maxLen; omega) (by omega) LO.out ?_
     clear HRL
     intro v' s5 ho hg hp
     have hB := Below.of_grown hg LO.out (fun x hx => (own_block_ge OO.out x hx).1)
     obtain ⟨AX, cx, rfl⟩ := own_formH ho
     have OO : Hid (s5.ownsRow lo 49 5 (.slice AX (0 + D.length) cx) (0 + D.length) (D.flatMap Rq.cells)) := ho
     rw [Nat.zero_add] at OO ⊢
     replace HS := Lib.hid (HS.out.trans (hB.mono HWL.out))
     clear G5
     replace LO := Lib.hid (Nat.le_trans LO.out hg.size)
     replace G6 := Lib.hid (OwG.rowed G6.out hg OP.out)
     clear hB hg ho hp OP
     refine hK.out _ _ HS.out (fun hS5 => ?_)
     clear hK KK
     (try simp only [Act.put, pu1, pu2, pu3])
     refine wpAnyH_ready (rs := [14]) (by kernel_rfl) (by simp) ?_
     refine AllReadyH.cons rfl (fun KK hK => ?_) AllReadyH.nil
     have HRL := Lib.hid (Rd.below OA.out.rd.2 HS.out)
     have OP := OO
     refine step_appG (k := 5) (f := Rq.cells) (fun _ => rfl) (by rfl) _ _ 31 (by rfl) lo 49 I (.agg #[.int .i64 0, .int .i64 0, .int .i64 0, .int .i64 0, .int .i64 0]) 40 Try.underlying31 I1.out I2.out I3.out I4.out (by rfl) (by omega) _ D.length (D.flatMap Rq.cells) (by rfl) OO.out _ _ _ T rfl (by rfl) HRL.out OA.out.rdA.nB (reqs_oneH _) (by unfold maxLen; omega) (by omega) LO.out ?_
     clear HRL
     intro v' s6 ho hg hp
     have hB := Below.of_grown hg LO.out (fun x hx => (own_block_ge OO.out x hx).1)
     obtain ⟨AX, cx, rfl⟩ := own_formH ho
     have OO : Hid (s6.ownsRow lo 49 5 (.slice AX DT.length cx) DT.length (DT.flatMap Rq.cells)) := by
      rw [HDA.out, List.flatMap_append, List.length_append]
      exact ho
     rw [← HDT.out]
     replace HS := Lib.hid (HS.out.trans (hB.mono HWL.out))
     replace LO := Lib.hid (Nat.le_trans LO.out hg.size)
     replace G6 := Lib.hid (OwG.rowed G6.out hg OP.out)
     clear hB hg ho hp OP
     refine hK.out _ _ HS.out (fun hS6 => ?_)
     clear hK KK
     (try simp only [Act.put, pu1, pu2, pu3])
     refine wpAnyH_ready (rs := [15]) (by kernel_rfl) (by simp) ?_
     refine AllReadyH.cons rfl (fun KK hK => ?_) AllReadyH.nil
     go_simp
     have HCO := Lib.hid (own_cap OO.out).1
     have HRO := Lib.hid (Rd.of_own (f := Rq.cells) (k := 5) (fun _ => rfl) OO.out rfl)
     have hs := implGameFold AX cx DT s6 (by rw [HDT.out]; omega) HCO.out HRO.out
     rw [HFT.out] at hs
     refine hs.mono ?_
     clear hs HCO HRO
     rintro e s7 ⟨A7, a7, B7, b7, C7, c7, rfl, g7, hb⟩
     have G7 := Lib.hid g7.gmR.rd
     clear g7
     replace HS := Lib.hid (Below.and HS.out hb)
     replace OO := Lib.hid (own_below OO.out hb)
     replace LO := Lib.hid (Nat.le_trans LO.out hb.size)
     replace G6 := Lib.hid (G6.out.below hb)
     clear hb
     refine hK.out _ _ HS.out (fun hS7 => ?_)
     clear hK KK
     (try simp only [Act.put, pu1, pu2, pu3])
     refine wpAnyH_ready (rs := [16]) (by kernel_rfl) (by simp) ?_
     refine AllReadyH.cons rfl (fun KK hK => ?_) AllReadyH.nil
     go_simp
     refine (wpGame_rd G6.out.gmR.rd G7.out HLG.out.1 HLG.out.2.1 HLG.out.2.2).mono ?_
     rintro e s8 ⟨rfl, hb⟩
     replace HS := Lib.hid (Below.and HS.out hb)
     replace OO := Lib.hid (own_below OO.out hb)
     replace LO := Lib.hid (Nat.le_trans LO.out hb.size)
     replace G6 := Lib.hid (G6.out.below hb)
     replace G7 := Lib.hid (G7.out.below hb)
     clear hb
     refine hK.out _ _ HS.out (fun hS8 => ?_)
     clear hK KK
     (try simp only [Act.put, pu1, pu2, pu3])
     refine tkI 17 43 (v := ?_) rfl rfl ?_ ?_
     rotate_left
     · intro wS hSw; obtain ⟨hcS, hfS⟩ := bcell hSw; go_simp; (try with_reducible rfl)
     (try simp only [Act.put, pu1, pu2, pu3])
     refine tkI 18 2 (v := ?_) rfl rfl ?_ ?_
     rotate_left
     · intro wS hSw; obtain ⟨hcS, hfS⟩ := bcell hSw; go_simp; (try with_reducible rfl)
     (try simp only [Act.put, pu1, pu2, pu3])
     refine wpAnyH_done (by kernel_rfl) ?_ _
     replace T3 := Lib.hid (Three.below T3.out HS.out T3.out.lt)
     replace OA := Lib.hid (OA.out.below HS.out)
     replace T4 := Lib.hid (Three.below T4.out HS.out T4.out.lt)
     replace G1 := Lib.hid (G1.out.below HS.out)
     replace Z := Lib.hid (Below.and Z.out HS.out)
     clear p0 p1 p2 r0 r1 r2 lp lr
     go_wp2
     go_light
     go_ret
     exact ⟨rfl, Z.out⟩
end Go.Proofs.Ytameldhdegcpoaa
