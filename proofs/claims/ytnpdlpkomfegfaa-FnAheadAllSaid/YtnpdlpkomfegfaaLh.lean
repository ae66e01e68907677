/- When all that was done ahead is done for good, in order, nothing was undone: the law. -/
import Derived.Test.YtnpdlpkomfegfaaLb
import Derived.Test.YtnpdlpkomfegfaaHl
import Derived.Test.YtnpdlpkomfegfaaIg
import Derived.Test.YtnpdlpkomfegfaaMR
import Derived.Test.YtnpdlpkomfegfaaMQ
namespace Go.Proofs.Ytnpdlpkomfegfaa
open Go.ChangeShapes Go.WideShapes Go.ChangeAt Go.RowKit
set_option linter.unusedVariables false
set_option linter.unusedSimpArgs false

theorem DoAh.goK {D T : List Rq} {k : Int} {b : Bool} {w w' : World} {e : Ending} (h : DoAh ((D, T, k), b) w e w') : ∃ A a B b', e = .returned (.tuple #[aheadV A D.length a B T.length b' k, .bool b]) ∧ OwA w' w.heap.size A a B b' D T ∧ Below w.heap.size w w' := h
theorem ahB_move {D T : List Rq} {k : Int} (h : ahB D T k = true) (i : Nat) : ahB (D ++ T.take i) (T.drop i) k = true := by
 have ha := ahB_all h
 have hl := ahB_len h
 unfold ahB at h ⊢
 simp only [Bool.and_eq_true, decide_eq_true_eq, List.all_eq_true] at h ⊢
 refine ⟨by rw [List.length_append, List.length_take, List.length_drop]; omega, h.2.1, fun r hr => ?_, fun r hr => ha.2 r (List.mem_of_mem_drop hr)⟩
 rcases List.mem_append.1 hr with h1 | h1
 · exact ha.1 r h1
 · exact ha.2 r (List.mem_of_mem_take h1)
theorem keep_first {D T : List Rq} {k : Int} (h : ahB D T k = true) (i : Nat) (hi : i < T.length) : keepA (D ++ T.take i) (T.drop i) k (T[i]'hi) = ((D ++ T.take (i + 1), T.drop (i + 1), k), true) := by
 have h1 := ahB_move h i
 have hd : T.drop i = (T[i]'hi) :: T.drop (i + 1) := List.drop_eq_getElem_cons hi
 have ha : atR (T[i]'hi) (T.drop i) = some 0 := by rw [hd, atR, if_pos rfl]
 have ho : okB (T[i]'hi) = true := (ahB_all h).2 _ (List.getElem_mem hi)
 unfold keepA
 rw [if_pos h1, if_pos ⟨ho, fun e => by rw [ha] at e; cases e.1⟩, ha]
 have e1 : D ++ T.take i ++ [T[i]'hi] = D ++ T.take (i + 1) := by rw [List.append_assoc, List.take_succ_eq_append_getElem hi]
 have e2 : delT (some 0) (T.drop i) = T.drop (i + 1) := by rw [hd]; rfl
 have e3 : bumpK (T.drop i) (some 0) k = k := by unfold bumpK; rw [if_neg (fun e => e.2 rfl)]
 rw [e1, e2, e3]
theorem suG_all {D T : List Rq} {k : Int} (h : ahB D T k = true) : suG (D ++ T) [] k = agG D T k := by
 have h1 := ahB_move h T.length
 rw [List.take_length, List.drop_length] at h1
 unfold suG agG
 rw [if_pos h1, if_pos h]
 exact fold_app D T

set_option maxRecDepth 100000 in
set_option maxHeartbeats 60000000 in
theorem lawAheadAll {w : World} {A : Option Addr} {n c : Nat} (hm : n ≤ maxLen) (hc : n ≤ c) (hb : InB w A n) :
 Calls Try.prog 6 #[.slice A n c] w fun e w' => e = .returned (.bool true) ∧ Below w.heap.size w w' := by
 have HB := Lib.hid hb
 unfold maxLen at hm
 clear hb
 by_cases hn : ¬ n ≤ 1048576
 · have e1 : decide ((1048576 : Int) < (n : Int)) = true := by simp; omega
   go_enter Try.func6, Try.ntmps6
   go_wp2
   go_ret
   exact ⟨rfl, Below.refl _ _⟩
 have hn : n ≤ 1048576 := by omega
 have e1 : decide ((1048576 : Int) < (n : Int)) = false := by simp; omega
 go_enter Try.func6, Try.ntmps6
 go_wp2_with (fail)
 refine (drawAheadGame hn hc HB.out).mono ?_
 rintro e w1 ⟨D1, d, T1, t, D, T, k, rfl, hD, hT, ho, h1⟩
 have Z := Lib.hid h1
 have OA := Lib.hid ho
 clear h1 ho HB
 go_upto_region 4 with (fail)
 have hba : Below w1.heap.size w1 (w1.alloc (.cells #[.slice D1 D.length d, .slice T1 T.length t, .int .i64 k] 25)) := (Below.refl _ _).alloc (Nat.le_refl _) _
 have T3 := Lib.hid (Three.new (u0 := .slice D1 D.length d) (u1 := .slice T1 T.length t) (u2 := .int .i64 k) (t := 25) w1)
 replace OA := Lib.hid (OA.out.below hba)
 replace Z := Lib.hid (Below.and Z.out hba)
 clear hba
 obtain ⟨p3, hp3⟩ : ∃ Y, Y = w1.heap.size := ⟨_, rfl⟩
 obtain ⟨w2, hw2⟩ : ∃ Y, Y = w1.alloc (.cells #[.slice D1 D.length d, .slice T1 T.length t, .int .i64 k] 25) := ⟨_, rfl⟩
 rw [← hw2] at T3 OA Z ⊢
 rw [← hp3] at T3 ⊢
 clear hw2 hp3
 obtain ⟨p0, p1, p2⟩ := T3.out.cells
 obtain ⟨X, hX⟩ : ∃ X, X = agG D T k := ⟨_, rfl⟩
 have hln := agG_len D T k
 rw [← hX] at hln
 have HLN := Lib.hid (show X.1.length ≤ 1048576 ∧ X.2.1.length ≤ 1048576 ∧ X.2.2.length ≤ 1048576 from ⟨by omega, by omega, by omega⟩)
 have HX := Lib.hid hX
 clear hX hln
 go_wp2_with (fail)
 have hs := implAheadGame D1 d T1 t D T k w2 (by omega) (by omega) OA.out.rdAc
 rw [← HX.out] at hs
 refine hs.mono ?_
 clear hs
 unfold AgI
 rintro e w3 ⟨A1, a1, B1, b1, C1, c1, rfl, g1, hb⟩
 have G1 := Lib.hid g1
 clear g1 p0 p1 p2
 replace T3 := Lib.hid (Three.below T3.out hb T3.out.lt)
 replace OA := Lib.hid (OA.out.below hb)
 replace Z := Lib.hid (Below.and Z.out hb)
 clear hb
 unfold gameV
 go_upto_region 5 with (fail)
 have hba : Below w3.heap.size w3 (w3.alloc (.cells #[.slice A1 X.1.length a1, .slice B1 X.2.1.length b1, .slice C1 X.2.2.length c1] 30)) := (Below.refl _ _).alloc (Nat.le_refl _) _
 have T4 := Lib.hid (Three.new (u0 := .slice A1 X.1.length a1) (u1 := .slice B1 X.2.1.length b1) (u2 := .slice C1 X.2.2.length c1) (t := 30) w3)
 replace OA := Lib.hid (OA.out.below hba)
 replace Z := Lib.hid (Below.and Z.out hba)
 replace T3 := Lib.hid (Three.below T3.out hba T3.out.lt)
 replace G1 := Lib.hid (G1.out.below hba)
 clear hba
 obtain ⟨p4, hp4⟩ : ∃ Y, Y = w3.heap.size := ⟨_, rfl⟩
 obtain ⟨w5, hw5⟩ : ∃ Y, Y = w3.alloc (.cells #[.slice A1 X.1.length a1, .slice B1 X.2.1.length b1, .slice C1 X.2.2.length c1] 30) := ⟨_, rfl⟩
 rw [← hw5] at T4 OA Z T3 G1 ⊢
 rw [← hp4] at T4 ⊢
 clear hw5 hp4
 rcases hok : ahB D T k with _ | _
 · have HOK := Lib.hid hok
   clear hok
   obtain ⟨xp0, xp1, xp2⟩ := T3.out.cells
   have xpl := T3.out.lt
   obtain ⟨xq0, xq1, xq2⟩ := T4.out.cells
   have xql := T4.out.lt
   refine wp_region_held_drew (S := fun WS => Below w5.heap.size w5 WS) (by kernel_rfl) ((Below.refl _ _).drew) (fun hS0 => ?_)
   have HS : Hid (Below w5.heap.size w5 w5.drew) := (Below.refl _ _).drew
   obtain ⟨q0, hq0⟩ : ∃ X, X = w5.drew := ⟨_, rfl⟩
   rw [← hq0] at hS0 HS ⊢
   clear hq0
   refine tkI 0 15 (v := ?_) rfl rfl ?_ ?_
   rotate_left
   · intro wS hSw; obtain ⟨hcS, hfS⟩ := bcell hSw; go_simp; (try with_reducible rfl)
   (try simp only [Act.put, pu1, pu2, pu3])
   refine tkI 1 16 (v := ?_) rfl rfl ?_ ?_
   rotate_left
   · intro wS hSw; obtain ⟨hcS, hfS⟩ := bcell hSw; go_simp; (try with_reducible rfl)
   (try simp only [Act.put, pu1, pu2, pu3])
   refine wpAnyH_ready (rs := [2]) (by kernel_rfl) (by simp) ?_
   refine AllReadyH.cons rfl (fun KK hK => ?_) AllReadyH.nil
   go_simp
   have hs := specAheadGame D1 d T1 t D T k q0 (by omega) (by omega) (OA.out.rdAc.below HS.out)
   rw [← HX.out] at hs
   refine hs.mono ?_
   clear hs
   unfold AgR
   rintro e q1 ⟨A5, a5, B5, b5, C5, c5, rfl, g5, hb⟩
   have G5 := Lib.hid g5.rd
   clear g5
   replace HS := Lib.hid (Below.and HS.out hb)
   clear hb
   refine hK.out _ _ HS.out (fun hS1 => ?_)
   clear hK KK
   (try simp only [Act.put, pu1, pu2, pu3])
   refine wpAnyH_ready (rs := [3]) (by kernel_rfl) (by simp) ?_
   refine AllReadyH.cons rfl (fun KK hK => ?_) AllReadyH.nil
   go_simp
   refine (wpGame_rd (G1.out.below HS.out).gmR.rd G5.out HLN.out.1 HLN.out.2.1 HLN.out.2.2).mono ?_
   rintro e q2 ⟨rfl, hb⟩
   replace HS := Lib.hid (Below.and HS.out hb)
   replace G5 := Lib.hid (G5.out.below hb)
   clear hb
   refine hK.out _ _ HS.out (fun hS2 => ?_)
   clear hK KK
   (try simp only [Act.put, pu1, pu2, pu3])
   refine tkI 4 19 (v := ?_) rfl rfl ?_ ?_
   rotate_left
   · intro wS hSw; obtain ⟨hcS, hfS⟩ := bcell hSw; go_simp; (try with_reducible rfl)
   (try simp only [Act.put, pu1, pu2, pu3])
   refine tkI 5 20 (v := ?_) rfl rfl ?_ ?_
   rotate_left
   · intro wS hSw; obtain ⟨hcS, hfS⟩ := bcell hSw; go_simp; (try with_reducible rfl)
   (try simp only [Act.put, pu1, pu2, pu3])
   refine tkI 6 21 (v := ?_) rfl rfl ?_ ?_
   rotate_left
   · intro wS hSw; obtain ⟨hcS, hfS⟩ := bcell hSw; go_simp; (try with_reducible rfl)
   (try simp only [Act.put, pu1, pu2, pu3])
   refine wpAnyH_ready (rs := [7]) (by kernel_rfl) (by simp) ?_
   refine AllReadyH.cons rfl (fun KK hK => ?_) AllReadyH.nil
   go_simp
   have hs := implAheadOk D1 d T1 t D T k q2 (by omega) (by omega) (Rd.below OA.out.rd.1 HS.out) (Rd.below OA.out.rd.2 HS.out)
   rw [HOK.out] at hs
   refine hs.mono ?_
   clear hs
   rintro e q3 ⟨rfl, hb⟩
   replace HS := Lib.hid (Below.and HS.out hb)
   replace G5 := Lib.hid (G5.out.below hb)
   clear hb
   refine hK.out _ _ HS.out (fun hS3 => ?_)
   clear hK KK
   (try simp only [Act.put, pu1, pu2, pu3])
   refine tkI 8 23 (v := ?_) rfl rfl ?_ ?_
   rotate_left
   · intro wS hSw; obtain ⟨hcS, hfS⟩ := bcell hSw; go_simp; (try with_reducible rfl)
   (try simp only [Act.put, pu1, pu2, pu3])
   refine tkI 9 24 (v := ?_) rfl rfl ?_ ?_
   rotate_left
   · intro wS hSw; obtain ⟨hcS, hfS⟩ := bcell hSw; go_simp; (try with_reducible rfl)
   (try simp only [Act.put, pu1, pu2, pu3])
   refine wpAnyH_done (by kernel_rfl) ?_ _
   replace T3 := Lib.hid (Three.below T3.out HS.out T3.out.lt)
   replace T4 := Lib.hid (Three.below T4.out HS.out T4.out.lt)
   replace OA := Lib.hid (OA.out.below HS.out)
   replace G1 := Lib.hid (G1.out.below HS.out)
   replace Z := Lib.hid (Below.and Z.out HS.out)
   clear xp0 xp1 xp2 xpl xq0 xq1 xq2 xql
   clear G5
   go_upto_region 6 with (fail)
   obtain ⟨w6, hw6⟩ : ∃ Y, Y = q3 := ⟨_, rfl⟩
   rw [← hw6] at T3 T4 OA G1 Z ⊢
   clear hw6 HS
   obtain ⟨xp0, xp1, xp2⟩ := T3.out.cells
   have xpl := T3.out.lt
   obtain ⟨xq0, xq1, xq2⟩ := T4.out.cells
   have xql := T4.out.lt
   refine wp_region_held_drew (S := fun WS => Below w6.heap.size w6 WS) (by kernel_rfl) ((Below.refl _ _).drew) (fun hS0 => ?_)
   have HS : Hid (Below w6.heap.size w6 w6.drew) := (Below.refl _ _).drew
   obtain ⟨s0, hs0⟩ : ∃ X, X = w6.drew := ⟨_, rfl⟩
   rw [← hs0] at hS0 HS ⊢
   clear hs0
   refine tkI 0 25 (v := ?_) rfl rfl ?_ ?_
   rotate_left
   · intro wS hSw; obtain ⟨hcS, hfS⟩ := bcell hSw; go_simp; (try with_reducible rfl)
   (try simp only [Act.put, pu1, pu2, pu3])
   refine tkI 1 26 (v := ?_) rfl rfl ?_ ?_
   rotate_left
   · intro wS hSw; obtain ⟨hcS, hfS⟩ := bcell hSw; go_simp; (try with_reducible rfl)
   (try simp only [Act.put, pu1, pu2, pu3])
   refine wpAnyH_ready (rs := [2]) (by kernel_rfl) (by simp) ?_
   refine AllReadyH.cons rfl (fun KK hK => ?_) AllReadyH.nil
   go_simp
   have hs := specAheadGame D1 d T1 t D T k s0 (by omega) (by omega) (OA.out.rdAc.below HS.out)
   rw [← HX.out] at hs
   refine hs.mono ?_
   clear hs
   unfold AgR
   rintro e s1 ⟨A5, a5, B5, b5, C5, c5, rfl, g5, hb⟩
   have G5 := Lib.hid g5.rd
   clear g5
   replace HS := Lib.hid (Below.and HS.out hb)
   clear hb
   refine hK.out _ _ HS.out (fun hS1 => ?_)
   clear hK KK
   (try simp only [Act.put, pu1, pu2, pu3])
   refine wpAnyH_ready (rs := [3]) (by kernel_rfl) (by simp) ?_
   refine AllReadyH.cons rfl (fun KK hK => ?_) AllReadyH.nil
   go_simp
   refine (wpGame_rd (G1.out.below HS.out).gmR.rd G5.out HLN.out.1 HLN.out.2.1 HLN.out.2.2).mono ?_
   rintro e s2 ⟨rfl, hb⟩
   replace HS := Lib.hid (Below.and HS.out hb)
   replace G5 := Lib.hid (G5.out.below hb)
   clear hb
   refine hK.out _ _ HS.out (fun hS2 => ?_)
   clear hK KK
   (try simp only [Act.put, pu1, pu2, pu3])
   refine tkI 4 2 (v := ?_) rfl rfl ?_ ?_
   rotate_left
   · intro wS hSw; obtain ⟨hcS, hfS⟩ := bcell hSw; go_simp; (try with_reducible rfl)
   (try simp only [Act.put, pu1, pu2, pu3])
   refine wpAnyH_done (by kernel_rfl) ?_ _
   replace T3 := Lib.hid (Three.below T3.out HS.out T3.out.lt)
   replace T4 := Lib.hid (Three.below T4.out HS.out T4.out.lt)
   replace OA := Lib.hid (OA.out.below HS.out)
   replace G1 := Lib.hid (G1.out.below HS.out)
   replace Z := Lib.hid (Below.and Z.out HS.out)
   clear xp0 xp1 xp2 xpl xq0 xq1 xq2 xql
   go_wp2
   go_light
   go_ret
   exact ⟨rfl, Z.out⟩
 · have HOK := Lib.hid hok
   clear hok
   obtain ⟨xp0, xp1, xp2⟩ := T3.out.cells
   have xpl := T3.out.lt
   obtain ⟨xq0, xq1, xq2⟩ := T4.out.cells
   have xql := T4.out.lt
   refine wp_region_held_drew (S := fun WS => Below w5.heap.size w5 WS) (by kernel_rfl) ((Below.refl _ _).drew) (fun hS0 => ?_)
   have HS : Hid (Below w5.heap.size w5 w5.drew) := (Below.refl _ _).drew
   obtain ⟨q0, hq0⟩ : ∃ X, X = w5.drew := ⟨_, rfl⟩
   rw [← hq0] at hS0 HS ⊢
   clear hq0
   refine tkI 0 15 (v := ?_) rfl rfl ?_ ?_
   rotate_left
   · intro wS hSw; obtain ⟨hcS, hfS⟩ := bcell hSw; go_simp; (try with_reducible rfl)
   (try simp only [Act.put, pu1, pu2, pu3])
   refine tkI 1 16 (v := ?_) rfl rfl ?_ ?_
   rotate_left
   · intro wS hSw; obtain ⟨hcS, hfS⟩ := bcell hSw; go_simp; (try with_reducible rfl)
   (try simp only [Act.put, pu1, pu2, pu3])
   refine wpAnyH_ready (rs := [2]) (by kernel_rfl) (by simp) ?_
   refine AllReadyH.cons rfl (fun KK hK => ?_) AllReadyH.nil
   go_simp
   have hs := specAheadGame D1 d T1 t D T k q0 (by omega) (by omega) (OA.out.rdAc.below HS.out)
   rw [← HX.out] at hs
   refine hs.mono ?_
   clear hs
   unfold AgR
   rintro e q1 ⟨A5, a5, B5, b5, C5, c5, rfl, g5, hb⟩
   have G5 := Lib.hid g5.rd
   clear g5
   replace HS := Lib.hid (Below.and HS.out hb)
   clear hb
   refine hK.out _ _ HS.out (fun hS1 => ?_)
   clear hK KK
   (try simp only [Act.put, pu1, pu2, pu3])
   refine wpAnyH_ready (rs := [3]) (by kernel_rfl) (by simp) ?_
   refine AllReadyH.cons rfl (fun KK hK => ?_) AllReadyH.nil
   go_simp
   refine (wpGame_rd (G1.out.below HS.out).gmR.rd G5.out HLN.out.1 HLN.out.2.1 HLN.out.2.2).mono ?_
   rintro e q2 ⟨rfl, hb⟩
   replace HS := Lib.hid (Below.and HS.out hb)
   replace G5 := Lib.hid (G5.out.below hb)
   clear hb
   refine hK.out _ _ HS.out (fun hS2 => ?_)
   clear hK KK
   (try simp only [Act.put, pu1, pu2, pu3])
   refine tkI 4 19 (v := ?_) rfl rfl ?_ ?_
   rotate_left
   · intro wS hSw; obtain ⟨hcS, hfS⟩ := bcell hSw; go_simp; (try with_reducible rfl)
   (try simp only [Act.put, pu1, pu2, pu3])
   refine tkI 5 20 (v := ?_) rfl rfl ?_ ?_
   rotate_left
   · intro wS hSw; obtain ⟨hcS, hfS⟩ := bcell hSw; go_simp; (try with_reducible rfl)
   (try simp only [Act.put, pu1, pu2, pu3])
   refine tkI 6 21 (v := ?_) rfl rfl ?_ ?_
   rotate_left
   · intro wS hSw; obtain ⟨hcS, hfS⟩ := bcell hSw; go_simp; (try with_reducible rfl)
   (try simp only [Act.put, pu1, pu2, pu3])
   refine wpAnyH_ready (rs := [7]) (by kernel_rfl) (by simp) ?_
   refine AllReadyH.cons rfl (fun KK hK => ?_) AllReadyH.nil
   go_simp
   have hs := implAheadOk D1 d T1 t D T k q2 (by omega) (by omega) (Rd.below OA.out.rd.1 HS.out) (Rd.below OA.out.rd.2 HS.out)
   rw [HOK.out] at hs
   refine hs.mono ?_
   clear hs
   rintro e q3 ⟨rfl, hb⟩
   replace HS := Lib.hid (Below.and HS.out hb)
   replace G5 := Lib.hid (G5.out.below hb)
   clear hb
   refine hK.out _ _ HS.out (fun hS3 => ?_)
   clear hK KK
   (try simp only [Act.put, pu1, pu2, pu3])
   refine tkI 8 23 (v := ?_) rfl rfl ?_ ?_
   rotate_left
   · intro wS hSw; obtain ⟨hcS, hfS⟩ := bcell hSw; go_simp; (try with_reducible rfl)
   (try simp only [Act.put, pu1, pu2, pu3])
   refine tkI 9 24 (v := ?_) rfl rfl ?_ ?_
   rotate_left
   · intro wS hSw; obtain ⟨hcS, hfS⟩ := bcell hSw; go_simp; (try with_reducible rfl)
   (try simp only [Act.put, pu1, pu2, pu3])
   refine wpAnyH_done (by kernel_rfl) ?_ _
   replace T3 := Lib.hid (Three.below T3.out HS.out T3.out.lt)
   replace T4 := Lib.hid (Three.below T4.out HS.out T4.out.lt)
   replace OA := Lib.hid (OA.out.below HS.out)
   replace G1 := Lib.hid (G1.out.below HS.out)
   replace Z := Lib.hid (Below.and Z.out HS.out)
   clear xp0 xp1 xp2 xpl xq0 xq1 xq2 xql
   clear G5
   go_upto_region 8 with (fail)
   obtain ⟨wB, hwB⟩ : ∃ Y, Y = q3 := ⟨_, rfl⟩
   rw [← hwB] at T3 T4 OA G1 Z ⊢
   clear hwB HS
   obtain ⟨xp0, xp1, xp2⟩ := T3.out.cells
   have xpl := T3.out.lt
   go_loop [5] (fun v => ∃ i : Nat, i ≤ T.length ∧ v = .int .i64 (i : Int)) (fun v => T.length - (intOf v).toNat)
   case atStart => exact ⟨0, by omega, rfl⟩
   case round =>
    obtain ⟨i, hi, rfl⟩ := hrel
    by_cases hlt : i < T.length
    · obtain ⟨gT, oT, rfl, ca⟩ := OA.out.rdA.t i hlt
      generalize T[i] = r at ca
      have xr0 : wB.cell? ⟨gT, oT + i * 5, none⟩ = some (.int .i64 r.c) := ca 0 _ rfl
      have xr1 : wB.cell? ⟨gT, oT + i * 5 + 1, none⟩ = some (.int .i64 r.n) := ca 1 _ rfl
      have xr2 : wB.cell? ⟨gT, oT + i * 5 + 2, none⟩ = some (.int .i64 r.o) := ca 2 _ rfl
      have xr3 : wB.cell? ⟨gT, oT + i * 5 + 3, none⟩ = some (.int .i64 r.x) := ca 3 _ rfl
      have xr4 : wB.cell? ⟨gT, oT + i * 5 + 4, none⟩ = some (.int .i64 r.y) := ca 4 _ rfl
      have xrg : gT < wB.heap.size := World.block_lt_of_cell? wB _ xr0
      have i0 : (0 : Int) ≤ (i : Int) := by omega
      have i1 : (i : Int) < (T.length : Int) := by omega
      clear ca
      have hq : ∀ W, (binOp .eql 37 (.agg #[.int .i64 r.c, .int .i64 r.n, .int .i64 r.o, .int .i64 r.x, .int .i64 r.y]) (.agg #[.int .i64 0, .int .i64 0, .int .i64 0, .int .i64 0, .int .i64 0])).run Try.prog W = .ok (.bool (nullB r)) W := fun W => eqlReq r ⟨0, 0, 0, 0, 0⟩ W
      rcases hn : nullB r with _ | _
      · rw [hn] at hq
        go_wp2
        go_round
        case rel => exact ⟨i + 1, by omega, by go_num⟩
        case measure => (simp [intOf]; try omega)
      · rw [hn] at hq
        go_wp2
        go_light
        go_ret
        exact ⟨rfl, Z.out⟩
    · have i1 : ¬ (i : Int) < (T.length : Int) := by omega
      have T6 := Lib.hid (Three.new (u0 := .slice D1 D.length d) (u1 := .slice T1 T.length t) (u2 := .int .i64 k) (t := 25) wB)
      have HB : Hid (Below wB.heap.size wB (wB.alloc (.cells #[.slice D1 D.length d, .slice T1 T.length t, .int .i64 k] 25))) := (Below.refl _ _).alloc (Nat.le_refl _) _
      have OX := Lib.hid (OA.out.below HB.out)
      go_upto_region 14 with (fail)
      obtain ⟨p6, hp6⟩ : ∃ Y, Y = wB.heap.size := ⟨_, rfl⟩
      obtain ⟨wC, hwC⟩ : ∃ Y, Y = wB.alloc (.cells #[.slice D1 D.length d, .slice T1 T.length t, .int .i64 k] 25) := ⟨_, rfl⟩
      have LP6 := Lib.hid (show wB.heap.size ≤ p6 by omega)
      have LB := Lib.hid (show w.heap.size ≤ wB.heap.size from Z.out.size)
      rw [← hwC] at T6 HB OX ⊢
      rw [← hp6] at T6 ⊢
      clear hp6 hwC hlt hi i1
      go_loopw [7] (fun v wr => ∃ (i : Nat) (A6 : Option Addr) (a6 : Nat) (B6 : Option Addr) (b6 : Nat) (DX TX : List Rq), i ≤ T.length ∧ v = .int .i64 (i : Int) ∧ Hid (DX = D ++ T.take i) ∧ Hid (TX = T.drop i) ∧ Hid (Three wr p6 25 (.slice A6 DX.length a6) (.slice B6 TX.length b6) (.int .i64 k)) ∧ Hid (OwA wr w.heap.size A6 a6 B6 b6 DX TX) ∧ Hid (Below wB.heap.size wB wr)) (fun v _ => T.length - (intOf v).toNat)
      case atStart => exact ⟨0, D1, d, T1, t, D, T, by omega, rfl, by simp [Hid], by simp [Hid], T6.out, OX.out, HB.out⟩
      case round =>
       clear T6 OX HB
       obtain ⟨i, A6, a6, B6, b6, DX, TX, hi, rfl, HDX, HTX, T6, OX, HB⟩ := hrel
       have xrl := HB.out.size
       by_cases hlt : i < T.length
       · have hkp := keep_first HOK.out i hlt
         rw [← HDX.out, ← HTX.out] at hkp
         have hDX : DX.length ≤ 20 := by rw [HDX.out, List.length_append, List.length_take]; omega
         have hTX : TX.length ≤ 20 := by rw [HTX.out, List.length_drop]; omega
         obtain ⟨DY, hDY⟩ : ∃ Y, Y = D ++ T.take (i + 1) := ⟨_, rfl⟩
         obtain ⟨TY, hTY⟩ : ∃ Y, Y = T.drop (i + 1) := ⟨_, rfl⟩
         rw [← hDY, ← hTY] at hkp
         have HDY := Lib.hid hDY
         have HTY := Lib.hid hTY
         have hri := hkp
         clear hDY hTY hkp
         obtain ⟨gT, oT, rfl, ca⟩ := OA.out.rdA.t i hlt
         have HKP := Lib.hid hri
         generalize T[i] = r at ca HKP
         have xr0 : wB.cell? ⟨gT, oT + i * 5, none⟩ = some (.int .i64 r.c) := ca 0 _ rfl
         have xr1 : wB.cell? ⟨gT, oT + i * 5 + 1, none⟩ = some (.int .i64 r.n) := ca 1 _ rfl
         have xr2 : wB.cell? ⟨gT, oT + i * 5 + 2, none⟩ = some (.int .i64 r.o) := ca 2 _ rfl
         have xr3 : wB.cell? ⟨gT, oT + i * 5 + 3, none⟩ = some (.int .i64 r.x) := ca 3 _ rfl
         have xr4 : wB.cell? ⟨gT, oT + i * 5 + 4, none⟩ = some (.int .i64 r.y) := ca 4 _ rfl
         have xrg : gT < wB.heap.size := World.block_lt_of_cell? wB _ xr0
         have i0 : (0 : Int) ≤ (i : Int) := by omega
         have i1 : (i : Int) < (T.length : Int) := by omega
         clear ca hri
         have yh := (Three.below T3.out HB.out T3.out.lt).cells.2.1
         go_upto_region 16 with (fail)
         clear yh
         refine wp_region_held_drew (S := fun WS => Below wB.heap.size wB WS) (by kernel_rfl) HB.out.drew (fun hS0 => ?_)
         have hb : Below wr.heap.size wr wr.drew := (Below.refl _ _).drew
         replace T6 := Lib.hid (Three.below T6.out hb T6.out.lt)
         replace OX := Lib.hid (OX.out.below hb)
         replace HB := Lib.hid (Below.and HB.out hb)
         obtain ⟨w7, hw7⟩ : ∃ Y, Y = wr.drew := ⟨_, rfl⟩
         rw [← hw7] at hS0 T6 OX HB ⊢
         clear hw7 hb
         refine tkI 1 53 (v := ?_) rfl rfl ?_ ?_
         rotate_left
         · intro wS hSw; obtain ⟨hcS, hfS⟩ := bcell hSw; go_simp; (try with_reducible rfl)
         (try simp only [Act.put, pu1, pu2, pu3])
         refine tkI 2 54 (v := ?_) rfl rfl ?_ ?_
         rotate_left
         · intro wS hSw; obtain ⟨hcS, hfS⟩ := bcell hSw; go_simp; (try with_reducible rfl)
         (try simp only [Act.put, pu1, pu2, pu3])
         refine tkI 3 55 (v := ?_) rfl rfl ?_ ?_
         rotate_left
         · intro wS hSw; obtain ⟨hcS, hfS⟩ := bcell hSw; go_simp; (try with_reducible rfl)
         (try simp only [Act.put, pu1, pu2, pu3])
         refine tkI 4 56 (v := ?_) rfl rfl ?_ ?_
         rotate_left
         · intro wS hSw; obtain ⟨hcS, hfS⟩ := bcell hSw; go_simp; (try with_reducible rfl)
         (try simp only [Act.put, pu1, pu2, pu3])
         refine tkI 5 57 (v := ?_) rfl rfl ?_ ?_
         rotate_left
         · intro wS hSw; obtain ⟨hcS, hfS⟩ := bcell hSw; go_simp; (try with_reducible rfl)
         (try simp only [Act.put, pu1, pu2, pu3])
         refine wpAnyH_ready (rs := [0]) (by kernel_rfl) (by simp) ?_
         refine AllReadyH.cons rfl (fun KK hK => ?_) AllReadyH.nil
         obtain ⟨y0, y1, y2⟩ := T6.out.cells
         go_simp
         refine hK.out _ _ HB.out (fun _ => ?_)
         clear hK KK
         (try simp only [Act.put, pu1, pu2, pu3])
         clear y0 y1 y2 xrg xr0 xr1 xr2 xr3 xr4 i0 i1 xp0 xp1 xp2 xpl xrl
         refine wpAnyH_ready (rs := [6]) (by kernel_rfl) (by simp) ?_
         refine AllReadyH.cons rfl (fun KK hK => ?_) AllReadyH.nil
         go_simp
         have hs := implAheadKeep A6 a6 B6 b6 DX TX k r w7 (by omega) (by omega) OX.out.rdA
         rw [HKP.out] at hs
         refine (hs.mono (fun _ _ h => DoAh.goK h)).mono ?_
         clear hs
         rintro e w8 ⟨A9, a9, B9, b9, rfl, ox, hb⟩
         have LWB := Lib.hid (show w.heap.size ≤ w7.heap.size by have := HB.out.size; have := LB.out; omega)
         have OY := Lib.hid (ox.base LWB.out)
         replace T6 := Lib.hid (Three.below T6.out hb T6.out.lt)
         replace HB := Lib.hid (Below.and HB.out hb)
         clear ox hb LWB OX
         refine hK.out _ _ HB.out (fun _ => ?_)
         clear hK KK
         (try simp only [Act.put, pu1, pu2, pu3])
         refine tkI 7 51 (v := ?_) rfl rfl ?_ ?_
         rotate_left
         · intro wS hSw; obtain ⟨hcS, hfS⟩ := bcell hSw; go_simp; (try with_reducible rfl)
         (try simp only [Act.put, pu1, pu2, pu3])
         refine tkI 8 59 (v := ?_) rfl rfl ?_ ?_
         rotate_left
         · intro wS hSw; obtain ⟨hcS, hfS⟩ := bcell hSw; go_simp; (try with_reducible rfl)
         (try simp only [Act.put, pu1, pu2, pu3])
         refine tkI 9 60 (v := ?_) rfl rfl ?_ ?_
         rotate_left
         · intro wS hSw; obtain ⟨hcS, hfS⟩ := bcell hSw; go_simp; (try with_reducible rfl)
         (try simp only [Act.put, pu1, pu2, pu3])
         refine wpAnyH_ready (rs := [10]) (by kernel_rfl) (by simp) ?_
         refine AllReadyH.cons rfl (fun KK hK => ?_) AllReadyH.nil
         obtain ⟨y0, y1, y2⟩ := T6.out.cells
         have yf := T6.out.frozen
         go_simp
         have lp6 := LP6.out
         replace HB : Hid (Below wB.heap.size wB (((w8.setCell ⟨p6, 0, none⟩ (.slice A9 DY.length a9)).setCell ⟨p6, 1, none⟩ (.slice B9 TY.length b9)).setCell ⟨p6, 2, none⟩ (.int .i64 k))) := ((HB.out.setCell (p := ⟨p6, 0, none⟩) lp6 (.slice A9 DY.length a9)).setCell (p := ⟨p6, 1, none⟩) lp6 (.slice B9 TY.length b9)).setCell (p := ⟨p6, 2, none⟩) lp6 (.int .i64 k)
         clear y0 y1 y2 yf lp6
         refine hK.out _ _ HB.out (fun _ => ?_)
         clear hK KK
         (try simp only [Act.put, pu1, pu2, pu3])
         refine wpAnyH_done (by kernel_rfl) ?_ _
         replace OY := Lib.hid (((OY.out.box T6.out 0 (.slice A9 DY.length a9)).box (T6.out.set0 _) 1 (.slice B9 TY.length b9)).box ((T6.out.set0 _).set1 _) 2 (.int .i64 k))
         replace T6 := Lib.hid (((T6.out.set0 (.slice A9 DY.length a9)).set1 (.slice B9 TY.length b9)).set2 (.int .i64 k))
         go_wp2
         go_roundw
         case rel => exact ⟨i + 1, A9, a9, B9, b9, DY, TY, by omega, by go_num, HDY.out, HTY.out, T6.out, OY.out, HB.out⟩
         case measure => (simp [intOf]; try omega)
       · have i1 : ¬ (i : Int) < (T.length : Int) := by omega
         have hDX : DX.length ≤ 20 := by rw [HDX.out, List.length_append, List.length_take]; omega
         have hTX : TX.length ≤ 20 := by rw [HTX.out, List.length_drop]; omega
         obtain rfl : i = T.length := by omega
         have hTX0 : TX.length = 0 := by rw [HTX.out, List.drop_length]; rfl
         have e0 : ((TX.length : Int) == 0) = true := by rw [hTX0]; rfl
         have ek : (k == k) = true := by simp
         have HSU : Hid (suG DX TX k = X) := by
          show _ = _
          rw [HDX.out, HTX.out, List.take_length, List.drop_length, HX.out]
          exact suG_all HOK.out
         replace T3 := Lib.hid (Three.below T3.out HB.out T3.out.lt)
         replace T4 := Lib.hid (Three.below T4.out HB.out T4.out.lt)
         replace G1 := Lib.hid (G1.out.below HB.out)
         replace Z := Lib.hid (Below.and Z.out HB.out)
         clear hTX0 xp0 xp1 xp2 xpl xrl
         have xh0 := T3.out.cells.2.1
         go_upto_region 17 with (fail)
         clear xh0
         obtain ⟨xp0, xp1, xp2⟩ := T3.out.cells
         have xpl := T3.out.lt
         obtain ⟨xq0, xq1, xq2⟩ := T4.out.cells
         have xql := T4.out.lt
         obtain ⟨xu0, xu1, xu2⟩ := T6.out.cells
         have xul := T6.out.lt
         refine wp_region_held_drew (S := fun WS => Below wr.heap.size wr WS) (by kernel_rfl) ((Below.refl _ _).drew) (fun hS0 => ?_)
         have HS : Hid (Below wr.heap.size wr wr.drew) := (Below.refl _ _).drew
         obtain ⟨v0, hv0⟩ : ∃ X, X = wr.drew := ⟨_, rfl⟩
         rw [← hv0] at hS0 HS ⊢
         clear hv0
         refine tkI 0 61 (v := ?_) rfl rfl ?_ ?_
         rotate_left
         · intro wS hSw; obtain ⟨hcS, hfS⟩ := bcell hSw; go_simp; (try with_reducible rfl)
         (try simp only [Act.put, pu1, pu2, pu3])
         refine tkI 2 63 (v := ?_) rfl rfl ?_ ?_
         rotate_left
         · intro wS hSw; obtain ⟨hcS, hfS⟩ := bcell hSw; go_simp; (try with_reducible rfl)
         (try simp only [Act.put, pu1, pu2, pu3])
         refine wpAnyH_ready (rs := [1]) (by kernel_rfl) (by simp) ?_
         refine AllReadyH.cons rfl (fun KK hK => ?_) AllReadyH.nil
         go_simp
         have hs := implAheadSure A6 a6 B6 b6 DX TX k v0 (by omega) (by omega) (OX.out.rdAc.below HS.out)
         rw [HSU.out] at hs
         refine hs.mono ?_
         clear hs
         unfold AgI
         rintro e v1 ⟨A9, a9, B9, b9, C9, c9, rfl, g9, hb⟩
         have G9 := Lib.hid g9.gmR.rd
         clear g9
         replace HS := Lib.hid (Below.and HS.out hb)
         clear hb
         refine hK.out _ _ HS.out (fun hS1 => ?_)
         clear hK KK
         (try simp only [Act.put, pu1, pu2, pu3])
         refine wpAnyH_ready (rs := [3]) (by kernel_rfl) (by simp) ?_
         refine AllReadyH.cons rfl (fun KK hK => ?_) AllReadyH.nil
         go_simp
         refine (wpGame_rd G9.out (G1.out.below HS.out).gmR.rd HLN.out.1 HLN.out.2.1 HLN.out.2.2).mono ?_
         rintro e v2 ⟨rfl, hb⟩
         replace HS := Lib.hid (Below.and HS.out hb)
         replace G9 := Lib.hid (G9.out.below hb)
         clear hb
         refine hK.out _ _ HS.out (fun hS2 => ?_)
         clear hK KK
         (try simp only [Act.put, pu1, pu2, pu3])
         refine tkI 4 65 (v := ?_) rfl rfl ?_ ?_
         rotate_left
         · intro wS hSw; obtain ⟨hcS, hfS⟩ := bcell hSw; go_simp; (try with_reducible rfl)
         (try simp only [Act.put, pu1, pu2, pu3])
         refine tkI 5 66 (v := ?_) rfl rfl ?_ ?_
         rotate_left
         · intro wS hSw; obtain ⟨hcS, hfS⟩ := bcell hSw; go_simp; (try with_reducible rfl)
         (try simp only [Act.put, pu1, pu2, pu3])
         refine tkI 6 67 (v := ?_) rfl rfl ?_ ?_
         rotate_left
         · intro wS hSw; obtain ⟨hcS, hfS⟩ := bcell hSw; go_simp; (try with_reducible rfl)
         (try simp only [Act.put, pu1, pu2, pu3])
         refine tkI 7 68 (v := ?_) rfl rfl ?_ ?_
         rotate_left
         · intro wS hSw; obtain ⟨hcS, hfS⟩ := bcell hSw; go_simp; (try with_reducible rfl)
         (try simp only [Act.put, pu1, pu2, pu3])
         refine tkI 8 69 (v := ?_) rfl rfl ?_ ?_
         rotate_left
         · intro wS hSw; obtain ⟨hcS, hfS⟩ := bcell hSw; go_simp; (try with_reducible rfl)
         (try simp only [Act.put, pu1, pu2, pu3])
         refine tkI 9 70 (v := ?_) rfl rfl ?_ ?_
         rotate_left
         · intro wS hSw; obtain ⟨hcS, hfS⟩ := bcell hSw; go_simp; (try with_reducible rfl)
         (try simp only [Act.put, pu1, pu2, pu3])
         refine tkI 10 71 (v := ?_) rfl rfl ?_ ?_
         rotate_left
         · intro wS hSw; obtain ⟨hcS, hfS⟩ := bcell hSw; go_simp; (try with_reducible rfl)
         (try simp only [Act.put, pu1, pu2, pu3])
         refine tkI 11 72 (v := ?_) rfl rfl ?_ ?_
         rotate_left
         · intro wS hSw; obtain ⟨hcS, hfS⟩ := bcell hSw; go_simp; (try with_reducible rfl)
         (try simp only [Act.put, pu1, pu2, pu3])
         refine tkI 12 73 (v := ?_) rfl rfl ?_ ?_
         rotate_left
         · intro wS hSw; obtain ⟨hcS, hfS⟩ := bcell hSw; go_simp; (try with_reducible rfl)
         (try simp only [Act.put, pu1, pu2, pu3])
         refine tkI 13 74 (v := ?_) rfl rfl ?_ ?_
         rotate_left
         · intro wS hSw; obtain ⟨hcS, hfS⟩ := bcell hSw; go_simp; (try with_reducible rfl)
         (try simp only [Act.put, pu1, pu2, pu3])
         refine tkI 14 75 (v := ?_) rfl rfl ?_ ?_
         rotate_left
         · intro wS hSw; obtain ⟨hcS, hfS⟩ := bcell hSw; go_simp; (try with_reducible rfl)
         (try simp only [Act.put, pu1, pu2, pu3])
         refine tkI 15 76 (v := ?_) rfl rfl ?_ ?_
         rotate_left
         · intro wS hSw; obtain ⟨hcS, hfS⟩ := bcell hSw; go_simp; (try with_reducible rfl)
         (try simp only [Act.put, pu1, pu2, pu3])
         refine tkI 16 77 (v := ?_) rfl rfl ?_ ?_
         rotate_left
         · intro wS hSw; obtain ⟨hcS, hfS⟩ := bcell hSw; go_simp; (try with_reducible rfl)
         (try simp only [Act.put, pu1, pu2, pu3])
         refine tkI 17 2 (v := ?_) rfl rfl ?_ ?_
         rotate_left
         · intro wS hSw; obtain ⟨hcS, hfS⟩ := bcell hSw; go_simp; (try with_reducible rfl)
         (try simp only [Act.put, pu1, pu2, pu3])
         refine wpAnyH_done (by kernel_rfl) ?_ _
         replace T3 := Lib.hid (Three.below T3.out HS.out T3.out.lt)
         replace T4 := Lib.hid (Three.below T4.out HS.out T4.out.lt)
         replace T6 := Lib.hid (Three.below T6.out HS.out T6.out.lt)
         replace OX := Lib.hid (OX.out.below HS.out)
         replace G1 := Lib.hid (G1.out.below HS.out)
         replace Z := Lib.hid (Below.and Z.out HS.out)
         clear xp0 xp1 xp2 xpl xq0 xq1 xq2 xql xu0 xu1 xu2 xul
         go_wp2
         go_light
         go_ret
         exact ⟨rfl, Z.out⟩

end Go.Proofs.Ytnpdlpkomfegfaa
