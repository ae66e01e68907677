import Derived.Test.YtameldhdegcpoaaLb
import Derived.Test.YtameldhdegcpoaaIj
import Derived.Test.YtameldhdegcpoaaIk
import Derived.Test.YtameldhdegcpoaaIg
import Derived.Test.YtameldhdegcpoaaMR
import Derived.Test.YtameldhdegcpoaaMQ
namespace Go.Proofs.Ytameldhdegcpoaa
open Go.ChangeShapes Go.WideShapes Go.ChangeAt Go.RowKit
set_option linter.unusedVariables false
set_option linter.unusedSimpArgs false
theorem codes_first {D T : List Rq} {k : Int} (h : ahB D T k = true) (h0 : 0 < T.length) : (acG D T k).length = T.length ∧ (acG D T k)[0]? = some (stepG (suG D T k).1 (suG D T k).2.1 (suG D T k).2.2 (T[0]'h0)).2 := by
 have e1 : acG D T k = codesG (foldG D) T := by unfold acG; rw [if_pos h]
 have e2 : suG D T k = foldG D := by unfold suG; rw [if_pos h]
 have hg : gokB (foldG D).1 (foldG D).2.1 (foldG D).2.2 = true := foldG_ok D g0 g0_ok (ahB_all h).1
 have hr : okB (T[0]'h0) = true := (ahB_all h).2 _ (List.getElem_mem h0)
 rw [e1, e2]
 refine ⟨codesG_len _ _, ?_⟩
 rw [stepG_at hg hr]
 rcases T with _ | ⟨x, t⟩
 · simp at h0
 · rfl
set_option maxRecDepth 100000 in
set_option maxHeartbeats 40000000 in
theorem lawAheadCodes {w : World} {A : Option Addr} {n c : Nat} (hm : n ≤ maxLen) (hc : n ≤ c) (hb : InB w A n) :
 Calls Try.prog 10 #[.slice A n c] w fun e w' => e = .returned (.bool true) ∧ Below w.heap.size w w' := by
 have HB := Lib.hid hb
 unfold maxLen at hm
 clear hb
 by_cases hn : ¬ n ≤ 1048576
 · have e1 : decide ((1048576 : Int) < (n : Int)) = true := by simp; omega
   go_enter Try.func10, Try.ntmps10
   go_wp2
   go_ret
   exact ⟨rfl, Below.refl _ _⟩
 have hn : n ≤ 1048576 := by omega
 have e1 : decide ((1048576 : Int) < (n : Int)) = false := by simp; omega
 go_enter Try.func10, Try.ntmps10
 go_wp2_with (fail)
 refine (drawAheadCodes hn hc HB.out).mono ?_
 rintro e w1 ⟨D1, d, T1, t, D, T, k, rfl, hD, hT, ho, h1⟩
 have Z := Lib.hid h1
 have OA := Lib.hid ho
 clear h1 ho HB
 go_upto_region 4 with (fail)
 have hba : Below w1.heap.size w1 (w1.alloc (.cells #[.slice D1 D.length d, .slice T1 T.length t, .int .i64 k] 33)) := (Below.refl _ _).alloc (Nat.le_refl _) _
 have T3 := Lib.hid (Three.new (u0 := .slice D1 D.length d) (u1 := .slice T1 T.length t) (u2 := .int .i64 k) (t := 33) w1)
 replace OA := Lib.hid (OA.out.below hba)
 replace Z := Lib.hid (Below.and Z.out hba)
 clear hba
 obtain ⟨p3, hp3⟩ : ∃ Y, Y = w1.heap.size := ⟨_, rfl⟩
 obtain ⟨w2, hw2⟩ : ∃ Y, Y = w1.alloc (.cells #[.slice D1 D.length d, .slice T1 T.length t, .int .i64 k] 33) := ⟨_, rfl⟩
 rw [← hw2] at T3 OA Z ⊢
 rw [← hp3] at T3 ⊢
 clear hw2 hp3
 obtain ⟨p0, p1, p2⟩ := T3.out.cells
 have hlen : (acG D T k).length ≤ 5 := by
  unfold acG
  split
  · rw [codesG_len]; exact hT
  · simp
 obtain ⟨CS, hCS⟩ : ∃ X, X = acG D T k := ⟨_, rfl⟩
 rw [← hCS] at hlen
 have HC := Lib.hid hCS.symm
 have HCS := Lib.hid hCS
 have HCL := Lib.hid hlen
 clear hCS
 go_wp2_with (fail)
 have hs := implAheadCodes D1 d T1 t D T k w2 (by omega) (by omega) OA.out.rdAc
 rw [HC.out] at hs
 refine hs.mono ?_
 clear hs hlen
 rintro e w3 ⟨Q1, q1, rfl, oq, hb⟩
 have OQ := Lib.hid oq
 clear oq p0 p1 p2
 replace T3 := Lib.hid (Three.below T3.out hb T3.out.lt)
 replace OA := Lib.hid (OA.out.below hb)
 replace Z := Lib.hid (Below.and Z.out hb)
 clear hb
 obtain ⟨p0, p1, p2⟩ := T3.out.cells
 go_wp2_with (fail)
 have hs := specAheadCodes D1 d T1 t D T k w3 (by omega) (by omega) OA.out.rdAc
 rw [HC.out] at hs
 refine hs.mono ?_
 clear hs
 rintro e w4 ⟨Q2, q2, rfl, oq2, hb⟩
 have OQ2 := Lib.hid oq2
 clear oq2 p0 p1 p2
 replace T3 := Lib.hid (Three.below T3.out hb T3.out.lt)
 replace OA := Lib.hid (OA.out.below hb)
 replace OQ := Lib.hid (own_below OQ.out hb)
 replace Z := Lib.hid (Below.and Z.out hb)
 clear hb
 go_wp2_with (fail)
 refine (wpInts_rd Q1 Q2 q1 q2 CS (RdI.of_own OQ.out) (RdI.of_own OQ2.out) (by have := HCL.out; omega)).mono ?_
 rintro e w5 ⟨rfl, hb⟩
 clear OQ2
 replace T3 := Lib.hid (Three.below T3.out hb T3.out.lt)
 replace OA := Lib.hid (OA.out.below hb)
 replace OQ := Lib.hid (own_below OQ.out hb)
 replace Z := Lib.hid (Below.and Z.out hb)
 clear hb
 obtain ⟨p0, p1, p2⟩ := T3.out.cells
 go_wp2_with (fail)
 have hs := implAheadOk D1 d T1 t D T k w5 (by omega) (by omega) OA.out.rd.1 OA.out.rd.2
 rcases hok : ahB D T k with _ | _
 · rw [hok] at hs
   clear hok
   refine hs.mono ?_
   clear hs
   rintro e w6 ⟨rfl, hb⟩
   clear p0 p1 p2
   replace T3 := Lib.hid (Three.below T3.out hb T3.out.lt)
   replace OA := Lib.hid (OA.out.below hb)
   replace OQ := Lib.hid (own_below OQ.out hb)
   replace Z := Lib.hid (Below.and Z.out hb)
   clear hb
   obtain ⟨p0, p1, p2⟩ := T3.out.cells
   go_wp2_with (fail)
   have hs := specAheadCodes D1 d T1 t D T k w6 (by omega) (by omega) OA.out.rdAc
   rw [HC.out] at hs
   refine hs.mono ?_
   clear hs
   rintro e w7 ⟨Q2, q2, rfl, oq2, hb⟩
   have OQ2 := Lib.hid oq2
   clear oq2 p0 p1 p2
   replace T3 := Lib.hid (Three.below T3.out hb T3.out.lt)
   replace OA := Lib.hid (OA.out.below hb)
   replace OQ := Lib.hid (own_below OQ.out hb)
   replace Z := Lib.hid (Below.and Z.out hb)
   clear hb
   go_wp2_with (fail)
   refine (wpInts_rd Q1 Q2 q1 q2 CS (RdI.of_own OQ.out) (RdI.of_own OQ2.out) (by have := HCL.out; omega)).mono ?_
   rintro e w8 ⟨rfl, hb⟩
   clear OQ2
   replace T3 := Lib.hid (Three.below T3.out hb T3.out.lt)
   replace OA := Lib.hid (OA.out.below hb)
   replace OQ := Lib.hid (own_below OQ.out hb)
   replace Z := Lib.hid (Below.and Z.out hb)
   clear hb
   go_wp2
   go_light
   go_ret
   exact ⟨rfl, Z.out⟩
 rw [hok] at hs
 have HOK := Lib.hid hok
 clear hok
 refine hs.mono ?_
 clear hs
 rintro e w6 ⟨rfl, hb⟩
 clear p0 p1 p2
 replace T3 := Lib.hid (Three.below T3.out hb T3.out.lt)
 replace OA := Lib.hid (OA.out.below hb)
 replace OQ := Lib.hid (own_below OQ.out hb)
 replace Z := Lib.hid (Below.and Z.out hb)
 clear hb
 by_cases h0 : 0 < T.length
 · have e0 : ((T.length : Int) == 0) = false := beq_eq_false_iff_ne.2 (by omega)
   obtain ⟨hl, hc0⟩ := codes_first HOK.out h0
   obtain ⟨Y, hY⟩ : ∃ Y, Y = stepG (suG D T k).1 (suG D T k).2.1 (suG D T k).2.2 (T[0]'h0) := ⟨_, rfl⟩
   rw [← hY, ← HCS.out] at hc0
   rw [← HCS.out] at hl
   have HCL := Lib.hid hl
   have HCI : Hid ((ints CS)[0]? = some (.int .i64 Y.2)) := by
    show _ = _
    rw [ints, List.getElem?_map, hc0]
    rfl
   have hg := suG_len D T k
   obtain ⟨G, hG⟩ : ∃ X, X = suG D T k := ⟨_, rfl⟩
   rw [← hG] at hY hg
   have HG := Lib.hid hG.symm
   replace hY := Lib.hid hY.symm
   have hg11 : G.1.length ≤ 4 := hg.1
   have hg12 : G.2.1.length ≤ 16 := hg.2.1
   have hg13 : G.2.2.length ≤ 4 := hg.2.2
   clear hl hc0 hG hg
   have xh := T3.out.cells.2.1
   go_upto_region 7 with (fail)
   clear xh e0
   obtain ⟨gT, oT, rfl, ca⟩ := OA.out.rdA.t 0 h0
   have HYr := hY
   clear hY
   generalize T[0] = r at ca HYr
   have xr0 : w6.cell? ⟨gT, oT, none⟩ = some (.int .i64 r.c) := by simpa using ca 0 _ rfl
   have xr1 : w6.cell? ⟨gT, oT + 1, none⟩ = some (.int .i64 r.n) := by simpa using ca 1 _ rfl
   have xr2 : w6.cell? ⟨gT, oT + 2, none⟩ = some (.int .i64 r.o) := by simpa using ca 2 _ rfl
   have xr3 : w6.cell? ⟨gT, oT + 3, none⟩ = some (.int .i64 r.x) := by simpa using ca 3 _ rfl
   have xr4 : w6.cell? ⟨gT, oT + 4, none⟩ = some (.int .i64 r.y) := by simpa using ca 4 _ rfl
   have xrg : gT < w6.heap.size := World.block_lt_of_cell? w6 _ xr0
   clear ca
   have i1 : (0 : Int) < (T.length : Int) := by omega
   go_cut [5, 6] from 7 (fun s5 s6 wc => ∃ p9, s5 = .pointer (some ⟨p9, 0, none⟩) ∧ s6 = .int .i64 Y.2 ∧ Hid (Below w6.heap.size w6 wc))
   case first =>
    obtain ⟨xp0, xp1, xp2⟩ := T3.out.cells
    have xpl := T3.out.lt
    refine wp_region_held_drew (S := fun WS => Below w6.heap.size w6 WS) (by kernel_rfl) ((Below.refl _ _).drew) (fun hS0 => ?_)
    have HS : Hid (Below w6.heap.size w6 w6.drew) := (Below.refl _ _).drew
    obtain ⟨s0, hs0⟩ : ∃ X, X = w6.drew := ⟨_, rfl⟩
    rw [← hs0] at hS0 HS ⊢
    clear hs0
    refine tkI 0 35 (v := ?_) rfl rfl ?_ ?_
    rotate_left
    · intro wS hSw; obtain ⟨hcS, hfS⟩ := bcell hSw; go_simp; (try with_reducible rfl)
    (try simp only [Act.put, pu1, pu2, pu3])
    refine tkI 2 37 (v := ?_) rfl rfl ?_ ?_
    rotate_left
    · intro wS hSw; obtain ⟨hcS, hfS⟩ := bcell hSw; go_simp; (try with_reducible rfl)
    (try simp only [Act.put, pu1, pu2, pu3])
    refine tkI 3 38 (v := ?_) rfl rfl ?_ ?_
    rotate_left
    · intro wS hSw; obtain ⟨hcS, hfS⟩ := bcell hSw; go_simp; (try with_reducible rfl)
    (try simp only [Act.put, pu1, pu2, pu3])
    refine tkI 4 39 (v := ?_) rfl rfl ?_ ?_
    rotate_left
    · intro wS hSw; obtain ⟨hcS, hfS⟩ := bcell hSw; go_simp; (try with_reducible rfl)
    (try simp only [Act.put, pu1, pu2, pu3])
    refine tkI 5 40 (v := ?_) rfl rfl ?_ ?_
    rotate_left
    · intro wS hSw; obtain ⟨hcS, hfS⟩ := bcell hSw; go_simp; (try with_reducible rfl)
    (try simp only [Act.put, pu1, pu2, pu3])
    refine wpAnyH_ready (rs := [1, 10]) (by kernel_rfl) (by simp) ?_
    refine AllReadyH.cons rfl (fun KK hK => ?_) (AllReadyH.cons rfl (fun KK hK => ?_) AllReadyH.nil)
    · go_simp
      have hs := implAheadSure D1 d (some ⟨gT, oT, none⟩) t D T k s0 (by omega) (by omega) (OA.out.rdAc.below HS.out)
      rw [HG.out] at hs
      refine hs.mono ?_
      clear hs
      unfold AgI
      rintro e s1 ⟨A8, a8, B8, b8, C8, c8, rfl, g8, hb⟩
      have G8 := Lib.hid g8
      clear g8
      replace HS := Lib.hid (Below.and HS.out hb)
      clear hb
      refine hK.out _ _ HS.out (fun hS1 => ?_)
      clear hK KK
      (try simp only [Act.put, pu1, pu2, pu3])
      refine wpAnyH_ready (rs := [6, 10]) (by kernel_rfl) (by simp) ?_
      refine AllReadyH.cons rfl (fun KK hK => ?_) (AllReadyH.cons rfl (fun KK hK => ?_) AllReadyH.nil)
      · go_simp
        have hs := implGameDo A8 a8 B8 b8 C8 c8 G.1 G.2.1 G.2.2 r s1 (by omega) (by omega) (by omega) G8.out.gmR
        rw [HYr.out] at hs
        refine hs.mono ?_
        clear hs
        unfold DoI
        rintro e s2 ⟨A9, a9, B9, b9, C9, c9, rfl, g9, hb⟩
        have G9 := Lib.hid g9
        clear g9
        replace HS := Lib.hid (Below.and HS.out hb)
        replace G8 := Lib.hid (G8.out.below hb)
        clear hb
        refine hK.out _ _ HS.out (fun hS2 => ?_)
        clear hK KK
        (try simp only [Act.put, pu1, pu2, pu3])
        refine tkI 7 34 (v := ?_) rfl rfl ?_ ?_
        rotate_left
        · intro wS hSw; obtain ⟨hcS, hfS⟩ := bcell hSw; go_simp; (try with_reducible rfl)
        (try simp only [Act.put, pu1, pu2, pu3])
        refine tkI 8 42 (v := ?_) rfl rfl ?_ ?_
        rotate_left
        · intro wS hSw; obtain ⟨hcS, hfS⟩ := bcell hSw; go_simp; (try with_reducible rfl)
        (try simp only [Act.put, pu1, pu2, pu3])
        refine tkI 9 43 (v := ?_) rfl rfl ?_ ?_
        rotate_left
        · intro wS hSw; obtain ⟨hcS, hfS⟩ := bcell hSw; go_simp; (try with_reducible rfl)
        (try simp only [Act.put, pu1, pu2, pu3])
        refine wpAnyH_ready (rs := [10]) (by kernel_rfl) (by simp) ?_
        refine AllReadyH.cons rfl (fun KK hK => ?_) AllReadyH.nil
        go_simp
        have hb : Below s2.heap.size s2 (s2.alloc (.cells #[.slice none 0 0, .slice none 0 0, .slice none 0 0] 29)) := (Below.refl _ _).alloc (Nat.le_refl _) _
        have TZ := Lib.hid (Three.new (u0 := .slice none 0 0) (u1 := .slice none 0 0) (u2 := .slice none 0 0) (t := 29) s2)
        have LZ : Hid (w6.heap.size ≤ s2.heap.size) := HS.out.size
        obtain ⟨s3, hs3⟩ : ∃ X, X = s2.alloc (.cells #[.slice none 0 0, .slice none 0 0, .slice none 0 0] 29) := ⟨_, rfl⟩
        rw [← hs3] at hb TZ ⊢
        clear hs3
        obtain ⟨p9, hp9⟩ : ∃ X, X = s2.heap.size := ⟨_, rfl⟩
        rw [← hp9] at TZ LZ ⊢
        clear hp9
        replace HS := Lib.hid (Below.and HS.out hb)
        replace G8 := Lib.hid (G8.out.below hb)
        replace G9 := Lib.hid (G9.out.below hb)
        clear hb
        refine hK.out _ _ HS.out (fun hS3 => ?_)
        clear hK KK
        (try simp only [Act.put, pu1, pu2, pu3])
        refine wpAnyH_ready (rs := [11]) (by kernel_rfl) (by simp) ?_
        refine AllReadyH.cons rfl (fun KK hK => ?_) AllReadyH.nil
        obtain ⟨z0, z1, z2⟩ := TZ.out.cells
        have zf := TZ.out.frozen
        unfold gameV
        go_simp
        clear z0 z1 z2 zf
        have l9 := LZ.out
        have hS : Below w6.heap.size w6 _ := ((HS.out.setCell (p := ⟨p9, 0, none⟩) l9 (.slice A9 Y.1.1.length a9)).setCell (p := ⟨p9, 1, none⟩) l9 (.slice B9 Y.1.2.1.length b9)).setCell (p := ⟨p9, 2, none⟩) l9 (.slice C9 Y.1.2.2.length c9)
        obtain ⟨s4, hs4⟩ : ∃ X, X = (((s3.setCell ⟨p9, 0, none⟩ (.slice A9 Y.1.1.length a9)).setCell ⟨p9, 1, none⟩ (.slice B9 Y.1.2.1.length b9)).setCell ⟨p9, 2, none⟩ (.slice C9 Y.1.2.2.length c9)) := ⟨_, rfl⟩
        rw [← hs4] at hS ⊢
        clear hs4 l9 TZ LZ G9
        replace HS := Lib.hid (hS)
        clear hS
        refine hK.out _ _ HS.out (fun hS4 => ?_)
        clear hK KK
        (try simp only [Act.put, pu1, pu2, pu3])
        refine tkI 12 6 (v := ?_) rfl rfl ?_ ?_
        rotate_left
        · intro wS hSw; obtain ⟨hcS, hfS⟩ := bcell hSw; go_simp; (try with_reducible rfl)
        (try simp only [Act.put, pu1, pu2, pu3])
        refine wpAnyH_done (by kernel_rfl) ?_ _
        have HSb := HS
        go_wp2_with (fail)
        go_meet
        case rel => exact ⟨p9, rfl, rfl, HSb⟩
      · go_simp
        have hb : Below s1.heap.size s1 (s1.alloc (.cells #[.slice none 0 0, .slice none 0 0, .slice none 0 0] 29)) := (Below.refl _ _).alloc (Nat.le_refl _) _
        have TZ := Lib.hid (Three.new (u0 := .slice none 0 0) (u1 := .slice none 0 0) (u2 := .slice none 0 0) (t := 29) s1)
        have LZ : Hid (w6.heap.size ≤ s1.heap.size) := HS.out.size
        obtain ⟨s2, hs2⟩ : ∃ X, X = s1.alloc (.cells #[.slice none 0 0, .slice none 0 0, .slice none 0 0] 29) := ⟨_, rfl⟩
        rw [← hs2] at hb TZ ⊢
        clear hs2
        obtain ⟨p9, hp9⟩ : ∃ X, X = s1.heap.size := ⟨_, rfl⟩
        rw [← hp9] at TZ LZ ⊢
        clear hp9
        replace HS := Lib.hid (Below.and HS.out hb)
        replace G8 := Lib.hid (G8.out.below hb)
        clear hb
        refine hK.out _ _ HS.out (fun hS2 => ?_)
        clear hK KK
        (try simp only [Act.put, pu1, pu2, pu3])
        refine wpAnyH_ready (rs := [6]) (by kernel_rfl) (by simp) ?_
        refine AllReadyH.cons rfl (fun KK hK => ?_) AllReadyH.nil
        go_simp
        have hs := implGameDo A8 a8 B8 b8 C8 c8 G.1 G.2.1 G.2.2 r s2 (by omega) (by omega) (by omega) G8.out.gmR
        rw [HYr.out] at hs
        refine hs.mono ?_
        clear hs
        unfold DoI
        rintro e s3 ⟨A9, a9, B9, b9, C9, c9, rfl, g9, hb⟩
        have G9 := Lib.hid g9
        clear g9
        replace HS := Lib.hid (Below.and HS.out hb)
        replace G8 := Lib.hid (G8.out.below hb)
        replace TZ := Lib.hid (Three.below TZ.out hb TZ.out.lt)
        clear hb
        refine hK.out _ _ HS.out (fun hS3 => ?_)
        clear hK KK
        (try simp only [Act.put, pu1, pu2, pu3])
        refine tkI 7 34 (v := ?_) rfl rfl ?_ ?_
        rotate_left
        · intro wS hSw; obtain ⟨hcS, hfS⟩ := bcell hSw; go_simp; (try with_reducible rfl)
        (try simp only [Act.put, pu1, pu2, pu3])
        refine tkI 8 42 (v := ?_) rfl rfl ?_ ?_
        rotate_left
        · intro wS hSw; obtain ⟨hcS, hfS⟩ := bcell hSw; go_simp; (try with_reducible rfl)
        (try simp only [Act.put, pu1, pu2, pu3])
        refine tkI 9 43 (v := ?_) rfl rfl ?_ ?_
        rotate_left
        · intro wS hSw; obtain ⟨hcS, hfS⟩ := bcell hSw; go_simp; (try with_reducible rfl)
        (try simp only [Act.put, pu1, pu2, pu3])
        refine wpAnyH_ready (rs := [11]) (by kernel_rfl) (by simp) ?_
        refine AllReadyH.cons rfl (fun KK hK => ?_) AllReadyH.nil
        obtain ⟨z0, z1, z2⟩ := TZ.out.cells
        have zf := TZ.out.frozen
        unfold gameV
        go_simp
        clear z0 z1 z2 zf
        have l9 := LZ.out
        have hS : Below w6.heap.size w6 _ := ((HS.out.setCell (p := ⟨p9, 0, none⟩) l9 (.slice A9 Y.1.1.length a9)).setCell (p := ⟨p9, 1, none⟩) l9 (.slice B9 Y.1.2.1.length b9)).setCell (p := ⟨p9, 2, none⟩) l9 (.slice C9 Y.1.2.2.length c9)
        obtain ⟨s4, hs4⟩ : ∃ X, X = (((s3.setCell ⟨p9, 0, none⟩ (.slice A9 Y.1.1.length a9)).setCell ⟨p9, 1, none⟩ (.slice B9 Y.1.2.1.length b9)).setCell ⟨p9, 2, none⟩ (.slice C9 Y.1.2.2.length c9)) := ⟨_, rfl⟩
        rw [← hs4] at hS ⊢
        clear hs4 l9 TZ LZ G9
        replace HS := Lib.hid (hS)
        clear hS
        refine hK.out _ _ HS.out (fun hS4 => ?_)
        clear hK KK
        (try simp only [Act.put, pu1, pu2, pu3])
        refine tkI 12 6 (v := ?_) rfl rfl ?_ ?_
        rotate_left
        · intro wS hSw; obtain ⟨hcS, hfS⟩ := bcell hSw; go_simp; (try with_reducible rfl)
        (try simp only [Act.put, pu1, pu2, pu3])
        refine wpAnyH_done (by kernel_rfl) ?_ _
        have HSb := HS
        go_wp2_with (fail)
        go_meet
        case rel => exact ⟨p9, rfl, rfl, HSb⟩
    · go_simp
      have hb : Below s0.heap.size s0 (s0.alloc (.cells #[.slice none 0 0, .slice none 0 0, .slice none 0 0] 29)) := (Below.refl _ _).alloc (Nat.le_refl _) _
      have TZ := Lib.hid (Three.new (u0 := .slice none 0 0) (u1 := .slice none 0 0) (u2 := .slice none 0 0) (t := 29) s0)
      have LZ : Hid (w6.heap.size ≤ s0.heap.size) := HS.out.size
      obtain ⟨s1, hs1⟩ : ∃ X, X = s0.alloc (.cells #[.slice none 0 0, .slice none 0 0, .slice none 0 0] 29) := ⟨_, rfl⟩
      rw [← hs1] at hb TZ ⊢
      clear hs1
      obtain ⟨p9, hp9⟩ : ∃ X, X = s0.heap.size := ⟨_, rfl⟩
      rw [← hp9] at TZ LZ ⊢
      clear hp9
      replace HS := Lib.hid (Below.and HS.out hb)
      clear hb
      refine hK.out _ _ HS.out (fun hS1 => ?_)
      clear hK KK
      (try simp only [Act.put, pu1, pu2, pu3])
      refine wpAnyH_ready (rs := [1]) (by kernel_rfl) (by simp) ?_
      refine AllReadyH.cons rfl (fun KK hK => ?_) AllReadyH.nil
      go_simp
      have hs := implAheadSure D1 d (some ⟨gT, oT, none⟩) t D T k s1 (by omega) (by omega) (OA.out.rdAc.below HS.out)
      rw [HG.out] at hs
      refine hs.mono ?_
      clear hs
      unfold AgI
      rintro e s2 ⟨A8, a8, B8, b8, C8, c8, rfl, g8, hb⟩
      have G8 := Lib.hid g8
      clear g8
      replace HS := Lib.hid (Below.and HS.out hb)
      replace TZ := Lib.hid (Three.below TZ.out hb TZ.out.lt)
      clear hb
      refine hK.out _ _ HS.out (fun hS2 => ?_)
      clear hK KK
      (try simp only [Act.put, pu1, pu2, pu3])
      refine wpAnyH_ready (rs := [6]) (by kernel_rfl) (by simp) ?_
      refine AllReadyH.cons rfl (fun KK hK => ?_) AllReadyH.nil
      go_simp
      have hs := implGameDo A8 a8 B8 b8 C8 c8 G.1 G.2.1 G.2.2 r s2 (by omega) (by omega) (by omega) G8.out.gmR
      rw [HYr.out] at hs
      refine hs.mono ?_
      clear hs
      unfold DoI
      rintro e s3 ⟨A9, a9, B9, b9, C9, c9, rfl, g9, hb⟩
      have G9 := Lib.hid g9
      clear g9
      replace HS := Lib.hid (Below.and HS.out hb)
      replace TZ := Lib.hid (Three.below TZ.out hb TZ.out.lt)
      replace G8 := Lib.hid (G8.out.below hb)
      clear hb
      refine hK.out _ _ HS.out (fun hS3 => ?_)
      clear hK KK
      (try simp only [Act.put, pu1, pu2, pu3])
      refine tkI 7 34 (v := ?_) rfl rfl ?_ ?_
      rotate_left
      · intro wS hSw; obtain ⟨hcS, hfS⟩ := bcell hSw; go_simp; (try with_reducible rfl)
      (try simp only [Act.put, pu1, pu2, pu3])
      refine tkI 8 42 (v := ?_) rfl rfl ?_ ?_
      rotate_left
      · intro wS hSw; obtain ⟨hcS, hfS⟩ := bcell hSw; go_simp; (try with_reducible rfl)
      (try simp only [Act.put, pu1, pu2, pu3])
      refine tkI 9 43 (v := ?_) rfl rfl ?_ ?_
      rotate_left
      · intro wS hSw; obtain ⟨hcS, hfS⟩ := bcell hSw; go_simp; (try with_reducible rfl)
      (try simp only [Act.put, pu1, pu2, pu3])
      refine wpAnyH_ready (rs := [11]) (by kernel_rfl) (by simp) ?_
      refine AllReadyH.cons rfl (fun KK hK => ?_) AllReadyH.nil
      obtain ⟨z0, z1, z2⟩ := TZ.out.cells
      have zf := TZ.out.frozen
      unfold gameV
      go_simp
      clear z0 z1 z2 zf
      have l9 := LZ.out
      have hS : Below w6.heap.size w6 _ := ((HS.out.setCell (p := ⟨p9, 0, none⟩) l9 (.slice A9 Y.1.1.length a9)).setCell (p := ⟨p9, 1, none⟩) l9 (.slice B9 Y.1.2.1.length b9)).setCell (p := ⟨p9, 2, none⟩) l9 (.slice C9 Y.1.2.2.length c9)
      obtain ⟨s4, hs4⟩ : ∃ X, X = (((s3.setCell ⟨p9, 0, none⟩ (.slice A9 Y.1.1.length a9)).setCell ⟨p9, 1, none⟩ (.slice B9 Y.1.2.1.length b9)).setCell ⟨p9, 2, none⟩ (.slice C9 Y.1.2.2.length c9)) := ⟨_, rfl⟩
      rw [← hs4] at hS ⊢
      clear hs4 l9 TZ LZ G9
      replace HS := Lib.hid (hS)
      clear hS
      refine hK.out _ _ HS.out (fun hS4 => ?_)
      clear hK KK
      (try simp only [Act.put, pu1, pu2, pu3])
      refine tkI 12 6 (v := ?_) rfl rfl ?_ ?_
      rotate_left
      · intro wS hSw; obtain ⟨hcS, hfS⟩ := bcell hSw; go_simp; (try with_reducible rfl)
      (try simp only [Act.put, pu1, pu2, pu3])
      refine wpAnyH_done (by kernel_rfl) ?_ _
      have HSb := HS
      go_wp2_with (fail)
      go_meet
      case rel => exact ⟨p9, rfl, rfl, HSb⟩
   case rest =>
    obtain ⟨p9, rfl, rfl, HBC⟩ := hcut
    replace T3 := Lib.hid (Three.below T3.out HBC.out T3.out.lt)
    replace OA := Lib.hid (OA.out.below HBC.out)
    replace OQ := Lib.hid (own_below OQ.out HBC.out)
    replace Z := Lib.hid (Below.and Z.out HBC.out)
    obtain ⟨gQ, rfl, _, _⟩ := own_some OQ.out (by have := HCL.out; omega)
    have lst : wc.cell? ⟨gQ, 0, none⟩ = some (.int .i64 Y.2) := by
     have := OQ.out.cellAt 0 (by have := HCL.out; omega)
     rw [this]
     exact HCI.out
    have xh := T3.out.cells.2.1
    have el : ((CS.length : Int) == (T.length : Int)) = true := by have := HCL.out; simp; omega
    have ey : (Y.2 == Y.2) = true := by simp
    have c1 : (0 : Int) < (CS.length : Int) := by have := HCL.out; omega
    clear HBC xr0 xr1 xr2 xr3 xr4 xrg
    go_wp2
    go_light
    go_ret
    exact ⟨rfl, Z.out⟩
 · have e0 : ((T.length : Int) == 0) = true := beq_iff_eq.2 (by omega)
   have xh := T3.out.cells.2.1
   clear h0
   go_upto_region 6 with (fail)
   clear xh
   obtain ⟨p0, p1, p2⟩ := T3.out.cells
   go_wp2_with (fail)
   have hs := specAheadCodes D1 d T1 t D T k w6 (by omega) (by omega) OA.out.rdAc
   rw [HC.out] at hs
   refine hs.mono ?_
   clear hs
   rintro e w7 ⟨Q2, q2, rfl, oq2, hb⟩
   have OQ2 := Lib.hid oq2
   clear oq2 p0 p1 p2
   replace T3 := Lib.hid (Three.below T3.out hb T3.out.lt)
   replace OA := Lib.hid (OA.out.below hb)
   replace OQ := Lib.hid (own_below OQ.out hb)
   replace Z := Lib.hid (Below.and Z.out hb)
   clear hb
   go_wp2_with (fail)
   refine (wpInts_rd Q1 Q2 q1 q2 CS (RdI.of_own OQ.out) (RdI.of_own OQ2.out) (by have := HCL.out; omega)).mono ?_
   rintro e w8 ⟨rfl, hb⟩
   clear OQ2
   replace T3 := Lib.hid (Three.below T3.out hb T3.out.lt)
   replace OA := Lib.hid (OA.out.below hb)
   replace OQ := Lib.hid (own_below OQ.out hb)
   replace Z := Lib.hid (Below.and Z.out hb)
   clear hb
   go_wp2
   go_light
   go_ret
   exact ⟨rfl, Z.out⟩
end Go.Proofs.Ytameldhdegcpoaa
