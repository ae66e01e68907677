/- Whatever is asked, a game is ok, and no gold is lost: the law. -/
import Derived.Test.YtkganikclbeplaaNR
import Derived.Test.YtkganikclbeplaaMR
namespace Go.Proofs.Ytkganikclbeplaa
open Go.ChangeShapes Go.WideShapes Go.ChangeAt Go.RowKit
set_option linter.unusedVariables false
set_option linter.unusedSimpArgs false

set_option maxRecDepth 100000 in
set_option maxHeartbeats 8000000 in
theorem lawGameDo {w : World} {A : Option Addr} {n c : Nat} (hm : n ≤ maxLen) (hc : n ≤ c) (hb : InB w A n) :
 Calls Try.prog 6 #[.slice A n c] w fun e w' => e = .returned (.bool true) ∧ Below w.heap.size w w' := by
 have HB := Lib.hid hb
 unfold maxLen at hm
 clear hb
 by_cases hn : ¬ n ≤ 1048576
 · have e1 : decide ((1048576 : Int) < (n : Int)) = true := by simp; omega
   go_enter Try.func6, Try.ntmps6
   go_wp2
   go_ret
   exact ⟨rfl, Below.refl _ _⟩
 have hn : n ≤ 1048576 := by omega
 have e1 : decide ((1048576 : Int) < (n : Int)) = false := by simp; omega
 go_enter Try.func6, Try.ntmps6
 go_wp2_with (fail)
 refine (drawGameDo hn hc HB.out).mono ?_
 rintro e w1 ⟨A0, a0, B0, b0, C0, c0, E, F, L, ⟨rc, rn, ro, rx, ry⟩, rfl, gt, hln, h1⟩
 have hba : Below w1.heap.size w1 ((w1.alloc (.cells #[.slice A0 E.length a0, .slice B0 F.length b0, .slice C0 L.length c0] 30)).alloc (.cells #[.int .i64 rc, .int .i64 rn, .int .i64 ro, .int .i64 rx, .int .i64 ry] 39)) := below_alloc2 w1 _ _
 have Z := Lib.hid (Below.and h1 hba)
 have GT := Lib.hid (gt.map (fun _ _ _ h => h.below hba))
 have T3 := Lib.hid ((Three.new (u0 := .slice A0 E.length a0) (u1 := .slice B0 F.length b0) (u2 := .slice C0 L.length c0) (t := 30) w1).alloc (.cells #[.int .i64 rc, .int .i64 rn, .int .i64 ro, .int .i64 rx, .int .i64 ry] 39))
 have F4 : Hid (Five ((w1.alloc (.cells #[.slice A0 E.length a0, .slice B0 F.length b0, .slice C0 L.length c0] 30)).alloc (.cells #[.int .i64 rc, .int .i64 rn, .int .i64 ro, .int .i64 rx, .int .i64 ry] 39)) (w1.heap.size + 1) 39 (.int .i64 rc) (.int .i64 rn) (.int .i64 ro) (.int .i64 rx) (.int .i64 ry)) := by have := Five.new (u0 := .int .i64 rc) (u1 := .int .i64 rn) (u2 := .int .i64 ro) (u3 := .int .i64 rx) (u4 := .int .i64 ry) (t := 39) (w1.alloc (.cells #[.slice A0 E.length a0, .slice B0 F.length b0, .slice C0 L.length c0] 30)); simpa [Hid] using this
 have LN := Lib.hid hln
 clear gt hln h1 hba HB
 unfold gameV
 go_upto_region 4 with (fail)
 obtain ⟨p3, hp3⟩ : ∃ Y, Y = w1.heap.size := ⟨_, rfl⟩
 obtain ⟨wA, hwA⟩ : ∃ Y, Y = ((w1.alloc (.cells #[.slice A0 E.length a0, .slice B0 F.length b0, .slice C0 L.length c0] 30)).alloc (.cells #[.int .i64 rc, .int .i64 rn, .int .i64 ro, .int .i64 rx, .int .i64 ry] 39)) := ⟨_, rfl⟩
 rw [← hwA] at Z GT T3 F4 ⊢
 rw [← hp3] at T3 F4 ⊢
 clear hwA hp3
 obtain ⟨⟨⟨E1, F1, L1⟩, x1⟩, hX⟩ : ∃ X : Gm × Int, X = stepG E F L ⟨rc, rn, ro, rx, ry⟩ := ⟨_, rfl⟩
 have hlen := stepG_len E F L ⟨rc, rn, ro, rx, ry⟩
 rw [← hX] at hlen
 simp only at hlen
 have LX := Lib.hid hlen
 have HX := Lib.hid hX
 clear hX hlen
 obtain ⟨p0, p1, p2⟩ := T3.out.cells
 obtain ⟨y0, y1, y2, y3, y4⟩ := F4.out.cells
 go_wp2_with (fail)
 have hf := implGameDoT (w := wA) (r := ⟨rc, rn, ro, rx, ry⟩) GT.out (by have := LN.out.1; omega) (by have := LN.out.2.1; omega) (by have := LN.out.2.2; omega)
 rw [← HX.out] at hf
 unfold Rq.val at hf
 refine hf.mono ?_
 clear hf
 unfold DoI
 rintro e w2 ⟨A1, a1, B1, b1, C1, c1, rfl, g1, hb⟩
 have hba : Below w2.heap.size w2 (w2.alloc (.cells #[.slice A1 E1.length a1, .slice B1 F1.length b1, .slice C1 L1.length c1] 30)) := (Below.refl _ _).alloc (Nat.le_refl _) _
 have G1 := Lib.hid (g1.gmR.below hba)
 have T5 := Lib.hid (Three.new (u0 := .slice A1 E1.length a1) (u1 := .slice B1 F1.length b1) (u2 := .slice C1 L1.length c1) (t := 30) w2)
 have GT := Lib.hid (GT.out.map (fun _ _ _ h => (h.below hb).below hba))
 have T3 := Lib.hid (Three.below (Three.below T3.out hb T3.out.lt) hba (by have := T3.out.lt; have := hb.size; omega))
 have F4 := Lib.hid ((F4.out.grown (Below.grownBy hb none) (by simp)).grown (Below.grownBy hba none) (by simp))
 have Z := Lib.hid (Below.and (Below.and Z.out hb) hba)
 clear hb hba g1 p0 p1 p2 y0 y1 y2 y3 y4
 unfold gameV
 go_upto_region 5 with (fail)
 obtain ⟨p5, hp5⟩ : ∃ Y, Y = w2.heap.size := ⟨_, rfl⟩
 obtain ⟨wB, hwB⟩ : ∃ Y, Y = w2.alloc (.cells #[.slice A1 E1.length a1, .slice B1 F1.length b1, .slice C1 L1.length c1] 30) := ⟨_, rfl⟩
 rw [← hwB] at Z GT T3 F4 T5 G1 ⊢
 rw [← hp5] at T5 ⊢
 clear hwB hp5
 obtain ⟨p0, p1, p2⟩ := T3.out.cells
 obtain ⟨y0, y1, y2, y3, y4⟩ := F4.out.cells
 go_wp2_with (fail)
 have hf := specGameDoT (w := wB) (r := ⟨rc, rn, ro, rx, ry⟩) GT.out (by have := LN.out.1; omega) (by have := LN.out.2.1; omega) (by have := LN.out.2.2; omega)
 rw [← HX.out] at hf
 unfold Rq.val at hf
 refine hf.mono ?_
 clear hf
 unfold DoR
 rintro e w3 ⟨A2, a2, B2, b2, C2, c2, rfl, g2, hb⟩
 have hba : Below w3.heap.size w3 (w3.alloc (.cells #[.slice A2 E1.length a2, .slice B2 F1.length b2, .slice C2 L1.length c2] 30)) := (Below.refl _ _).alloc (Nat.le_refl _) _
 have G2 := Lib.hid (g2.below hba)
 have T7 := Lib.hid (Three.new (u0 := .slice A2 E1.length a2) (u1 := .slice B2 F1.length b2) (u2 := .slice C2 L1.length c2) (t := 30) w3)
 have G1 := Lib.hid ((G1.out.below hb).below hba)
 have T5 := Lib.hid (Three.below (Three.below T5.out hb T5.out.lt) hba (by have := T5.out.lt; have := hb.size; omega))
 have GT := Lib.hid (GT.out.map (fun _ _ _ h => (h.below hb).below hba))
 have T3 := Lib.hid (Three.below (Three.below T3.out hb T3.out.lt) hba (by have := T3.out.lt; have := hb.size; omega))
 have F4 := Lib.hid ((F4.out.grown (Below.grownBy hb none) (by simp)).grown (Below.grownBy hba none) (by simp))
 have Z := Lib.hid (Below.and (Below.and Z.out hb) hba)
 clear hb hba g2 p0 p1 p2 y0 y1 y2 y3 y4
 unfold gameV
 go_upto_region 6 with (fail)
 obtain ⟨p7, hp7⟩ : ∃ Y, Y = w3.heap.size := ⟨_, rfl⟩
 obtain ⟨wC, hwC⟩ : ∃ Y, Y = w3.alloc (.cells #[.slice A2 E1.length a2, .slice B2 F1.length b2, .slice C2 L1.length c2] 30) := ⟨_, rfl⟩
 rw [← hwC] at Z GT T3 F4 T5 G1 T7 G2 ⊢
 rw [← hp7] at T7 ⊢
 clear hwC hp7
 obtain ⟨gb, hgb⟩ : ∃ bb, gokB E F L = bb := ⟨_, rfl⟩
 have HGB := Lib.hid hgb
 clear hgb
 have xx : (x1 != x1) = false := by simp
 have xe : (x1 == x1) = true := by simp
 have gg : (gb != gb) = false := by simp
 have ge : (gb == gb) = true := by simp
 by_cases hok : gokB E F L = true ∧ okB ⟨rc, rn, ro, rx, ry⟩ = true
 case neg =>
  have hX1 : x1 = 1 := by
   have h := HX.out
   unfold stepG at h
   rw [if_neg hok] at h
   exact congrArg Prod.snd h
  have x11 : (x1 == 1) = true := by simp [hX1]
  clear hX1 hok
  obtain ⟨s0, s1, s2⟩ := T3.out.cells
  obtain ⟨u0, u1, u2⟩ := T5.out.cells
  obtain ⟨v0, v1, v2⟩ := T7.out.cells
  have ls := T3.out.lt
  have lu := T5.out.lt
  have lv := T7.out.lt
  refine wp_region_held_drew (S := fun w1 => Below wC.heap.size wC w1) (by kernel_rfl) ((Below.refl _ _).drew) (fun hq => ?_)
  refine tkI 0 32 (v := ?_) rfl rfl ?_ ?_
  rotate_left
  · intro w1 hSw; obtain ⟨hcS, hfS⟩ := bcell hSw; go_simp; (try with_reducible rfl)
  (try simp only [Act.put, pu1, pu2, pu3])
  refine tkI 1 33 (v := ?_) rfl rfl ?_ ?_
  rotate_left
  · intro w1 hSw; obtain ⟨hcS, hfS⟩ := bcell hSw; go_simp; (try with_reducible rfl)
  (try simp only [Act.put, pu1, pu2, pu3])
  refine tkI 2 34 (v := ?_) rfl rfl ?_ ?_
  rotate_left
  · intro w1 hSw; obtain ⟨hcS, hfS⟩ := bcell hSw; go_simp; (try with_reducible rfl)
  (try simp only [Act.put, pu1, pu2, pu3])
  refine tkI 3 35 (v := ?_) rfl rfl ?_ ?_
  rotate_left
  · intro w1 hSw; obtain ⟨hcS, hfS⟩ := bcell hSw; go_simp; (try with_reducible rfl)
  (try simp only [Act.put, pu1, pu2, pu3])
  refine tkI 4 36 (v := ?_) rfl rfl ?_ ?_
  rotate_left
  · intro w1 hSw; obtain ⟨hcS, hfS⟩ := bcell hSw; go_simp; (try with_reducible rfl)
  (try simp only [Act.put, pu1, pu2, pu3])
  refine tkI 5 37 (v := ?_) rfl rfl ?_ ?_
  rotate_left
  · intro w1 hSw; obtain ⟨hcS, hfS⟩ := bcell hSw; go_simp; (try with_reducible rfl)
  (try simp only [Act.put, pu1, pu2, pu3])
  refine wpAnyH_ready (rs := [6]) (by kernel_rfl) (by simp) ?_
  refine AllReadyH.cons rfl (fun K hK => ?_) AllReadyH.nil
  go_simp
  refine (wpGame_rd (G1.out.below hq).rd (G2.out.below hq).rd (by have := LX.out.1; omega) (by have := LX.out.2.1; omega) (by have := LX.out.2.2; omega)).mono ?_
  rintro e wD ⟨rfl, hb⟩
  refine hK.out _ _ (Below.and hq hb) (fun hq2 => ?_)
  clear hK K
  (try simp only [Act.put, pu1, pu2, pu3])
  refine tkI 7 39 (v := ?_) rfl rfl ?_ ?_
  rotate_left
  · intro w1 hSw; obtain ⟨hcS, hfS⟩ := bcell hSw; go_simp; (try with_reducible rfl)
  (try simp only [Act.put, pu1, pu2, pu3])
  refine tkI 8 40 (v := ?_) rfl rfl ?_ ?_
  rotate_left
  · intro w1 hSw; obtain ⟨hcS, hfS⟩ := bcell hSw; go_simp; (try with_reducible rfl)
  (try simp only [Act.put, pu1, pu2, pu3])
  refine tkI 9 41 (v := ?_) rfl rfl ?_ ?_
  rotate_left
  · intro w1 hSw; obtain ⟨hcS, hfS⟩ := bcell hSw; go_simp; (try with_reducible rfl)
  (try simp only [Act.put, pu1, pu2, pu3])
  refine tkI 10 42 (v := ?_) rfl rfl ?_ ?_
  rotate_left
  · intro w1 hSw; obtain ⟨hcS, hfS⟩ := bcell hSw; go_simp; (try with_reducible rfl)
  (try simp only [Act.put, pu1, pu2, pu3])
  refine tkI 12 44 (v := ?_) rfl rfl ?_ ?_
  rotate_left
  · intro w1 hSw; obtain ⟨hcS, hfS⟩ := bcell hSw; go_simp; (try with_reducible rfl)
  (try simp only [Act.put, pu1, pu2, pu3])
  refine wpAnyH_ready (rs := [11]) (by kernel_rfl) (by simp) ?_
  refine AllReadyH.cons rfl (fun K hK => ?_) AllReadyH.nil
  go_simp
  have gl := (GT.out.map (fun _ _ _ h => h.below hq2)).gl.1
  refine (gameOkJ A0 a0 B0 b0 C0 c0 E F L _ (by have := LN.out.1; omega) (by have := LN.out.2.1; omega) (by have := LN.out.2.2; omega) gl.rE gl.rF gl.r4).mono ?_
  clear gl
  rintro e wE ⟨rfl, hb⟩
  rw [HGB.out]
  refine hK.out _ _ (Below.and hq2 hb) (fun hq3 => ?_)
  clear hK K
  (try simp only [Act.put, pu1, pu2, pu3])
  refine wpAnyH_ready (rs := [13]) (by kernel_rfl) (by simp) ?_
  refine AllReadyH.cons rfl (fun K hK => ?_) AllReadyH.nil
  go_simp
  have gl := (GT.out.map (fun _ _ _ h => h.below hq3)).gl.1
  refine (specGameOkJ A0 a0 B0 b0 C0 c0 E F L _ (by have := LN.out.1; omega) (by have := LN.out.2.1; omega) (by have := LN.out.2.2; omega) gl.rE gl.rF gl.rL).mono ?_
  clear gl
  rintro e wF ⟨rfl, hb⟩
  rw [HGB.out]
  refine hK.out _ _ (Below.and hq3 hb) (fun hq4 => ?_)
  clear hK K
  (try simp only [Act.put, pu1, pu2, pu3])
  refine tkI 14 46 (v := ?_) rfl rfl ?_ ?_
  rotate_left
  · intro w1 hSw; obtain ⟨hcS, hfS⟩ := bcell hSw; go_simp; (try with_reducible rfl)
  (try simp only [Act.put, pu1, pu2, pu3])
  refine tkI 15 47 (v := ?_) rfl rfl ?_ ?_
  rotate_left
  · intro w1 hSw; obtain ⟨hcS, hfS⟩ := bcell hSw; go_simp; (try with_reducible rfl)
  (try simp only [Act.put, pu1, pu2, pu3])
  refine tkI 16 48 (v := ?_) rfl rfl ?_ ?_
  rotate_left
  · intro w1 hSw; obtain ⟨hcS, hfS⟩ := bcell hSw; go_simp; (try with_reducible rfl)
  (try simp only [Act.put, pu1, pu2, pu3])
  refine tkI 17 49 (v := ?_) rfl rfl ?_ ?_
  rotate_left
  · intro w1 hSw; obtain ⟨hcS, hfS⟩ := bcell hSw; go_simp; (try with_reducible rfl)
  (try simp only [Act.put, pu1, pu2, pu3])
  refine tkI 18 50 (v := ?_) rfl rfl ?_ ?_
  rotate_left
  · intro w1 hSw; obtain ⟨hcS, hfS⟩ := bcell hSw; go_simp; (try with_reducible rfl)
  (try simp only [Act.put, pu1, pu2, pu3])
  refine tkI 19 51 (v := ?_) rfl rfl ?_ ?_
  rotate_left
  · intro w1 hSw; obtain ⟨hcS, hfS⟩ := bcell hSw; go_simp; (try with_reducible rfl)
  (try simp only [Act.put, pu1, pu2, pu3])
  refine wpAnyH_done (by kernel_rfl) ?_ _
  have HW := Lib.hid hq4
  clear s0 s1 s2 u0 u1 u2 v0 v1 v2 ls lu lv hq
  obtain ⟨wG, hwG⟩ : ∃ Y, Y = wF := ⟨_, rfl⟩
  rw [← hwG] at HW ⊢
  have hbz := HW.out
  clear hwG HW
  have T3 := Lib.hid (Three.below T3.out hbz T3.out.lt)
  have T5 := Lib.hid (Three.below T5.out hbz T5.out.lt)
  have T7 := Lib.hid (Three.below T7.out hbz T7.out.lt)
  have F4 := Lib.hid (F4.out.grown (Below.grownBy hbz none) (by simp))
  have GT := Lib.hid (GT.out.map (fun _ _ _ h => h.below hbz))
  have G1 := Lib.hid (G1.out.below hbz)
  have G2 := Lib.hid (G2.out.below hbz)
  have Z := Lib.hid (Below.and Z.out hbz)
  clear hbz
  go_wp2_with (fail)
  obtain ⟨s0, s1, s2⟩ := T3.out.cells
  obtain ⟨u0, u1, u2⟩ := T5.out.cells
  obtain ⟨v0, v1, v2⟩ := T7.out.cells
  have ls := T3.out.lt
  have lu := T5.out.lt
  have lv := T7.out.lt
  refine wp_region_held_drew (S := fun w1 => Below wG.heap.size wG w1) (by kernel_rfl) ((Below.refl _ _).drew) (fun hr => ?_)
  refine tkI 0 52 (v := ?_) rfl rfl ?_ ?_
  rotate_left
  · intro w1 hSw; obtain ⟨hcS, hfS⟩ := bcell hSw; go_simp; (try with_reducible rfl)
  (try simp only [Act.put, pu1, pu2, pu3])
  refine tkI 1 53 (v := ?_) rfl rfl ?_ ?_
  rotate_left
  · intro w1 hSw; obtain ⟨hcS, hfS⟩ := bcell hSw; go_simp; (try with_reducible rfl)
  (try simp only [Act.put, pu1, pu2, pu3])
  refine tkI 2 54 (v := ?_) rfl rfl ?_ ?_
  rotate_left
  · intro w1 hSw; obtain ⟨hcS, hfS⟩ := bcell hSw; go_simp; (try with_reducible rfl)
  (try simp only [Act.put, pu1, pu2, pu3])
  refine tkI 3 55 (v := ?_) rfl rfl ?_ ?_
  rotate_left
  · intro w1 hSw; obtain ⟨hcS, hfS⟩ := bcell hSw; go_simp; (try with_reducible rfl)
  (try simp only [Act.put, pu1, pu2, pu3])
  refine tkI 4 56 (v := ?_) rfl rfl ?_ ?_
  rotate_left
  · intro w1 hSw; obtain ⟨hcS, hfS⟩ := bcell hSw; go_simp; (try with_reducible rfl)
  (try simp only [Act.put, pu1, pu2, pu3])
  refine tkI 5 57 (v := ?_) rfl rfl ?_ ?_
  rotate_left
  · intro w1 hSw; obtain ⟨hcS, hfS⟩ := bcell hSw; go_simp; (try with_reducible rfl)
  (try simp only [Act.put, pu1, pu2, pu3])
  refine wpAnyH_ready (rs := [6]) (by kernel_rfl) (by simp) ?_
  refine AllReadyH.cons rfl (fun K hK => ?_) AllReadyH.nil
  go_simp
  refine (wpGame_rd (G1.out.below hr).rd (G2.out.below hr).rd (by have := LX.out.1; omega) (by have := LX.out.2.1; omega) (by have := LX.out.2.2; omega)).mono ?_
  rintro e wH ⟨rfl, hb⟩
  refine hK.out _ _ (Below.and hr hb) (fun hr2 => ?_)
  clear hK K
  (try simp only [Act.put, pu1, pu2, pu3])
  refine tkI 7 59 (v := ?_) rfl rfl ?_ ?_
  rotate_left
  · intro w1 hSw; obtain ⟨hcS, hfS⟩ := bcell hSw; go_simp; (try with_reducible rfl)
  (try simp only [Act.put, pu1, pu2, pu3])
  refine tkI 8 60 (v := ?_) rfl rfl ?_ ?_
  rotate_left
  · intro w1 hSw; obtain ⟨hcS, hfS⟩ := bcell hSw; go_simp; (try with_reducible rfl)
  (try simp only [Act.put, pu1, pu2, pu3])
  refine tkI 9 61 (v := ?_) rfl rfl ?_ ?_
  rotate_left
  · intro w1 hSw; obtain ⟨hcS, hfS⟩ := bcell hSw; go_simp; (try with_reducible rfl)
  (try simp only [Act.put, pu1, pu2, pu3])
  refine tkI 11 63 (v := ?_) rfl rfl ?_ ?_
  rotate_left
  · intro w1 hSw; obtain ⟨hcS, hfS⟩ := bcell hSw; go_simp; (try with_reducible rfl)
  (try simp only [Act.put, pu1, pu2, pu3])
  refine wpAnyH_ready (rs := [10]) (by kernel_rfl) (by simp) ?_
  refine AllReadyH.cons rfl (fun K hK => ?_) AllReadyH.nil
  go_simp
  have gl := (GT.out.map (fun _ _ _ h => h.below hr2)).gl.1
  refine (gameOkJ A0 a0 B0 b0 C0 c0 E F L _ (by have := LN.out.1; omega) (by have := LN.out.2.1; omega) (by have := LN.out.2.2; omega) gl.rE gl.rF gl.r4).mono ?_
  clear gl
  rintro e wI ⟨rfl, hb⟩
  rw [HGB.out]
  refine hK.out _ _ (Below.and hr2 hb) (fun hr3 => ?_)
  clear hK K
  (try simp only [Act.put, pu1, pu2, pu3])
  refine wpAnyH_ready (rs := [12]) (by kernel_rfl) (by simp) ?_
  refine AllReadyH.cons rfl (fun K hK => ?_) AllReadyH.nil
  go_simp
  have gl := (GT.out.map (fun _ _ _ h => h.below hr3)).gl.1
  refine (specGameOkJ A0 a0 B0 b0 C0 c0 E F L _ (by have := LN.out.1; omega) (by have := LN.out.2.1; omega) (by have := LN.out.2.2; omega) gl.rE gl.rF gl.rL).mono ?_
  clear gl
  rintro e wJ ⟨rfl, hb⟩
  rw [HGB.out]
  refine hK.out _ _ (Below.and hr3 hb) (fun hr4 => ?_)
  clear hK K
  (try simp only [Act.put, pu1, pu2, pu3])
  refine tkI 13 65 (v := ?_) rfl rfl ?_ ?_
  rotate_left
  · intro w1 hSw; obtain ⟨hcS, hfS⟩ := bcell hSw; go_simp; (try with_reducible rfl)
  (try simp only [Act.put, pu1, pu2, pu3])
  refine tkI 14 66 (v := ?_) rfl rfl ?_ ?_
  rotate_left
  · intro w1 hSw; obtain ⟨hcS, hfS⟩ := bcell hSw; go_simp; (try with_reducible rfl)
  (try simp only [Act.put, pu1, pu2, pu3])
  refine tkI 15 2 (v := ?_) rfl rfl ?_ ?_
  rotate_left
  · intro w1 hSw; obtain ⟨hcS, hfS⟩ := bcell hSw; go_simp; (try with_reducible rfl)
  (try simp only [Act.put, pu1, pu2, pu3])
  refine wpAnyH_done (by kernel_rfl) ?_ _
  have HW := Lib.hid hr4
  have Z := Lib.hid (Below.and Z.out HW.out)
  go_wp2
  go_light
  go_ret
  exact ⟨rfl, Z.out⟩
 case pos =>
  obtain ⟨hg, hr⟩ := hok
  have HD := HX.out
  rw [stepG_ok hg hr] at HD
  obtain ⟨a1k, a2k, a3k, a4k⟩ := stepG_again hg hr HD
  have x11 : (x1 == 1) = false := by simpa using a3k
  have HG1 := Lib.hid a1k
  have HS1 := Lib.hid a2k
  have HN1 := Lib.hid a4k
  have hg0 := hg
  clear a1k a2k a3k a4k hg hr HD
  obtain ⟨s0, s1, s2⟩ := T3.out.cells
  obtain ⟨u0, u1, u2⟩ := T5.out.cells
  obtain ⟨v0, v1, v2⟩ := T7.out.cells
  have ls := T3.out.lt
  have lu := T5.out.lt
  have lv := T7.out.lt
  refine wp_region_held_drew (S := fun w1 => Below wC.heap.size wC w1) (by kernel_rfl) ((Below.refl _ _).drew) (fun hq => ?_)
  refine tkI 0 32 (v := ?_) rfl rfl ?_ ?_
  rotate_left
  · intro w1 hSw; obtain ⟨hcS, hfS⟩ := bcell hSw; go_simp; (try with_reducible rfl)
  (try simp only [Act.put, pu1, pu2, pu3])
  refine tkI 1 33 (v := ?_) rfl rfl ?_ ?_
  rotate_left
  · intro w1 hSw; obtain ⟨hcS, hfS⟩ := bcell hSw; go_simp; (try with_reducible rfl)
  (try simp only [Act.put, pu1, pu2, pu3])
  refine tkI 2 34 (v := ?_) rfl rfl ?_ ?_
  rotate_left
  · intro w1 hSw; obtain ⟨hcS, hfS⟩ := bcell hSw; go_simp; (try with_reducible rfl)
  (try simp only [Act.put, pu1, pu2, pu3])
  refine tkI 3 35 (v := ?_) rfl rfl ?_ ?_
  rotate_left
  · intro w1 hSw; obtain ⟨hcS, hfS⟩ := bcell hSw; go_simp; (try with_reducible rfl)
  (try simp only [Act.put, pu1, pu2, pu3])
  refine tkI 4 36 (v := ?_) rfl rfl ?_ ?_
  rotate_left
  · intro w1 hSw; obtain ⟨hcS, hfS⟩ := bcell hSw; go_simp; (try with_reducible rfl)
  (try simp only [Act.put, pu1, pu2, pu3])
  refine tkI 5 37 (v := ?_) rfl rfl ?_ ?_
  rotate_left
  · intro w1 hSw; obtain ⟨hcS, hfS⟩ := bcell hSw; go_simp; (try with_reducible rfl)
  (try simp only [Act.put, pu1, pu2, pu3])
  refine wpAnyH_ready (rs := [6]) (by kernel_rfl) (by simp) ?_
  refine AllReadyH.cons rfl (fun K hK => ?_) AllReadyH.nil
  go_simp
  refine (wpGame_rd (G1.out.below hq).rd (G2.out.below hq).rd (by have := LX.out.1; omega) (by have := LX.out.2.1; omega) (by have := LX.out.2.2; omega)).mono ?_
  rintro e wD ⟨rfl, hb⟩
  refine hK.out _ _ (Below.and hq hb) (fun hq2 => ?_)
  clear hK K
  (try simp only [Act.put, pu1, pu2, pu3])
  refine tkI 7 39 (v := ?_) rfl rfl ?_ ?_
  rotate_left
  · intro w1 hSw; obtain ⟨hcS, hfS⟩ := bcell hSw; go_simp; (try with_reducible rfl)
  (try simp only [Act.put, pu1, pu2, pu3])
  refine tkI 8 40 (v := ?_) rfl rfl ?_ ?_
  rotate_left
  · intro w1 hSw; obtain ⟨hcS, hfS⟩ := bcell hSw; go_simp; (try with_reducible rfl)
  (try simp only [Act.put, pu1, pu2, pu3])
  refine tkI 9 41 (v := ?_) rfl rfl ?_ ?_
  rotate_left
  · intro w1 hSw; obtain ⟨hcS, hfS⟩ := bcell hSw; go_simp; (try with_reducible rfl)
  (try simp only [Act.put, pu1, pu2, pu3])
  refine tkI 10 42 (v := ?_) rfl rfl ?_ ?_
  rotate_left
  · intro w1 hSw; obtain ⟨hcS, hfS⟩ := bcell hSw; go_simp; (try with_reducible rfl)
  (try simp only [Act.put, pu1, pu2, pu3])
  refine tkI 12 44 (v := ?_) rfl rfl ?_ ?_
  rotate_left
  · intro w1 hSw; obtain ⟨hcS, hfS⟩ := bcell hSw; go_simp; (try with_reducible rfl)
  (try simp only [Act.put, pu1, pu2, pu3])
  refine wpAnyH_ready (rs := [11]) (by kernel_rfl) (by simp) ?_
  refine AllReadyH.cons rfl (fun K hK => ?_) AllReadyH.nil
  go_simp
  have gl := (GT.out.map (fun _ _ _ h => h.below hq2)).gl.1
  refine (gameOkJ A0 a0 B0 b0 C0 c0 E F L _ (by have := LN.out.1; omega) (by have := LN.out.2.1; omega) (by have := LN.out.2.2; omega) gl.rE gl.rF gl.r4).mono ?_
  clear gl
  rintro e wE ⟨rfl, hb⟩
  rw [HGB.out]
  refine hK.out _ _ (Below.and hq2 hb) (fun hq3 => ?_)
  clear hK K
  (try simp only [Act.put, pu1, pu2, pu3])
  refine wpAnyH_ready (rs := [13]) (by kernel_rfl) (by simp) ?_
  refine AllReadyH.cons rfl (fun K hK => ?_) AllReadyH.nil
  go_simp
  have gl := (GT.out.map (fun _ _ _ h => h.below hq3)).gl.1
  refine (specGameOkJ A0 a0 B0 b0 C0 c0 E F L _ (by have := LN.out.1; omega) (by have := LN.out.2.1; omega) (by have := LN.out.2.2; omega) gl.rE gl.rF gl.rL).mono ?_
  clear gl
  rintro e wF ⟨rfl, hb⟩
  rw [HGB.out]
  refine hK.out _ _ (Below.and hq3 hb) (fun hq4 => ?_)
  clear hK K
  (try simp only [Act.put, pu1, pu2, pu3])
  refine tkI 14 46 (v := ?_) rfl rfl ?_ ?_
  rotate_left
  · intro w1 hSw; obtain ⟨hcS, hfS⟩ := bcell hSw; go_simp; (try with_reducible rfl)
  (try simp only [Act.put, pu1, pu2, pu3])
  refine tkI 15 47 (v := ?_) rfl rfl ?_ ?_
  rotate_left
  · intro w1 hSw; obtain ⟨hcS, hfS⟩ := bcell hSw; go_simp; (try with_reducible rfl)
  (try simp only [Act.put, pu1, pu2, pu3])
  refine tkI 16 48 (v := ?_) rfl rfl ?_ ?_
  rotate_left
  · intro w1 hSw; obtain ⟨hcS, hfS⟩ := bcell hSw; go_simp; (try with_reducible rfl)
  (try simp only [Act.put, pu1, pu2, pu3])
  refine tkI 17 49 (v := ?_) rfl rfl ?_ ?_
  rotate_left
  · intro w1 hSw; obtain ⟨hcS, hfS⟩ := bcell hSw; go_simp; (try with_reducible rfl)
  (try simp only [Act.put, pu1, pu2, pu3])
  refine tkI 18 50 (v := ?_) rfl rfl ?_ ?_
  rotate_left
  · intro w1 hSw; obtain ⟨hcS, hfS⟩ := bcell hSw; go_simp; (try with_reducible rfl)
  (try simp only [Act.put, pu1, pu2, pu3])
  refine tkI 19 51 (v := ?_) rfl rfl ?_ ?_
  rotate_left
  · intro w1 hSw; obtain ⟨hcS, hfS⟩ := bcell hSw; go_simp; (try with_reducible rfl)
  (try simp only [Act.put, pu1, pu2, pu3])
  refine wpAnyH_done (by kernel_rfl) ?_ _
  have HW := Lib.hid hq4
  clear s0 s1 s2 u0 u1 u2 v0 v1 v2 ls lu lv hq
  obtain ⟨wG, hwG⟩ : ∃ Y, Y = wF := ⟨_, rfl⟩
  rw [← hwG] at HW ⊢
  have hbz := HW.out
  clear hwG HW
  have T3 := Lib.hid (Three.below T3.out hbz T3.out.lt)
  have T5 := Lib.hid (Three.below T5.out hbz T5.out.lt)
  have T7 := Lib.hid (Three.below T7.out hbz T7.out.lt)
  have F4 := Lib.hid (F4.out.grown (Below.grownBy hbz none) (by simp))
  have GT := Lib.hid (GT.out.map (fun _ _ _ h => h.below hbz))
  have G1 := Lib.hid (G1.out.below hbz)
  have G2 := Lib.hid (G2.out.below hbz)
  have Z := Lib.hid (Below.and Z.out hbz)
  clear hbz
  have HG0 := Lib.hid hg0
  rcases hN : nullB ⟨rc, rn, ro, rx, ry⟩ with _ | _
  · have hS := HS1.out
    rw [hN] at hS
    simp only [if_true, Bool.false_eq_true, if_false] at hS
    have hE0 : ∀ W, (binOp .eql 39 (.agg #[.int .i64 rc, .int .i64 rn, .int .i64 ro, .int .i64 rx, .int .i64 ry]) (.agg #[.int .i64 0, .int .i64 0, .int .i64 0, .int .i64 0, .int .i64 0])).run Try.prog W = .ok (.bool false) W := fun W => by
     have h := eqlReq ⟨rc, rn, ro, rx, ry⟩ ⟨0, 0, 0, 0, 0⟩ W
     unfold nullB at hN
     rw [hN] at h
     exact h
    have HNN := Lib.hid hN
    clear hN HS1
    obtain ⟨u0, u1, u2⟩ := T5.out.cells
    obtain ⟨y0, y1, y2, y3, y4⟩ := F4.out.cells
    have HS := Lib.hid hS
    clear hS
    go_wp2_with (fail)
    have hf := implGameDo A1 a1 B1 b1 C1 c1 E1 F1 L1 ⟨rc, rn, ro, rx, ry⟩ wG (by have := LX.out.1; omega) (by have := LX.out.2.1; omega) (by have := LX.out.2.2; omega) G1.out
    rw [HS.out] at hf
    unfold Rq.val at hf
    refine hf.mono ?_
    clear hf
    unfold DoI
    rintro e w8 ⟨A3, a3, B3, b3, C3, c3, rfl, g3, hb⟩
    clear u0 u1 u2 y0 y1 y2 y3 y4
    have T3 := Lib.hid (Three.below T3.out hb T3.out.lt)
    have T5 := Lib.hid (Three.below T5.out hb T5.out.lt)
    have T7 := Lib.hid (Three.below T7.out hb T7.out.lt)
    have F4 := Lib.hid (F4.out.grown (Below.grownBy hb none) (by simp))
    have GT := Lib.hid (GT.out.map (fun _ _ _ h => h.below hb))
    have G1 := Lib.hid (G1.out.below hb)
    have G2 := Lib.hid (G2.out.below hb)
    have Z := Lib.hid (Below.and Z.out hb)
    have hba : Below w8.heap.size w8 (w8.alloc (.cells #[.slice A3 E1.length a3, .slice B3 F1.length b3, .slice C3 L1.length c3] 30)) := (Below.refl _ _).alloc (Nat.le_refl _) _
    have G3 := Lib.hid (g3.gmR.below hba)
    have T9 := Lib.hid (Three.new (u0 := .slice A3 E1.length a3) (u1 := .slice B3 F1.length b3) (u2 := .slice C3 L1.length c3) (t := 30) w8)
    have T3 := Lib.hid (Three.below T3.out hba T3.out.lt)
    have T5 := Lib.hid (Three.below T5.out hba T5.out.lt)
    have T7 := Lib.hid (Three.below T7.out hba T7.out.lt)
    have F4 := Lib.hid (F4.out.grown (Below.grownBy hba none) (by simp))
    have GT := Lib.hid (GT.out.map (fun _ _ _ h => h.below hba))
    have G1 := Lib.hid (G1.out.below hba)
    have G2 := Lib.hid (G2.out.below hba)
    have Z := Lib.hid (Below.and Z.out hba)
    clear hb hba g3
    unfold gameV
    go_upto_region 9 with (fail)
    obtain ⟨p9, hp9⟩ : ∃ Y, Y = w8.heap.size := ⟨_, rfl⟩
    obtain ⟨wH, hwH⟩ : ∃ Y, Y = w8.alloc (.cells #[.slice A3 E1.length a3, .slice B3 F1.length b3, .slice C3 L1.length c3] 30) := ⟨_, rfl⟩
    rw [← hwH] at Z GT T3 F4 T5 G1 T7 G2 T9 G3 ⊢
    rw [← hp9] at T9 ⊢
    clear hwH hp9
    obtain ⟨y0, y1, y2, y3, y4⟩ := F4.out.cells
    obtain ⟨u0, u1, u2⟩ := T5.out.cells
    obtain ⟨v0, v1, v2⟩ := T9.out.cells
    go_wp2_with (fail)
    refine (gameOk A1 a1 B1 b1 C1 c1 E1 F1 L1 _ (by have := LX.out.1; omega) (by have := LX.out.2.1; omega) (by have := LX.out.2.2; omega) G1.out.rE G1.out.rF G1.out.rL).mono ?_
    rintro e wI ⟨rfl, hb⟩
    rw [HG1.out]
    clear y0 y1 y2 y3 y4 u0 u1 u2 v0 v1 v2
    have T3 := Lib.hid (Three.below T3.out hb T3.out.lt)
    have T5 := Lib.hid (Three.below T5.out hb T5.out.lt)
    have T7 := Lib.hid (Three.below T7.out hb T7.out.lt)
    have F4 := Lib.hid (F4.out.grown (Below.grownBy hb none) (by simp))
    have GT := Lib.hid (GT.out.map (fun _ _ _ h => h.below hb))
    have G1 := Lib.hid (G1.out.below hb)
    have G2 := Lib.hid (G2.out.below hb)
    have Z := Lib.hid (Below.and Z.out hb)
    have T9 := Lib.hid (Three.below T9.out hb T9.out.lt)
    have G3 := Lib.hid (G3.out.below hb)
    clear hb
    obtain ⟨u0, u1, u2⟩ := T5.out.cells
    obtain ⟨v0, v1, v2⟩ := T9.out.cells
    go_wp2_with (fail)
    refine (wpGame_rd G3.out.rd G1.out.rd (by have := LX.out.1; omega) (by have := LX.out.2.1; omega) (by have := LX.out.2.2; omega)).mono ?_
    rintro e wJ ⟨rfl, hb⟩
    clear u0 u1 u2 v0 v1 v2
    have T3 := Lib.hid (Three.below T3.out hb T3.out.lt)
    have T5 := Lib.hid (Three.below T5.out hb T5.out.lt)
    have T7 := Lib.hid (Three.below T7.out hb T7.out.lt)
    have F4 := Lib.hid (F4.out.grown (Below.grownBy hb none) (by simp))
    have GT := Lib.hid (GT.out.map (fun _ _ _ h => h.below hb))
    have G1 := Lib.hid (G1.out.below hb)
    have G2 := Lib.hid (G2.out.below hb)
    have Z := Lib.hid (Below.and Z.out hb)
    clear hb
    go_wp2
    go_light
    go_ret
    exact ⟨rfl, Z.out⟩
  · have hS := HS1.out
    rw [hN] at hS
    simp only [if_true, Bool.false_eq_true, if_false] at hS
    have hE0 : ∀ W, (binOp .eql 39 (.agg #[.int .i64 rc, .int .i64 rn, .int .i64 ro, .int .i64 rx, .int .i64 ry]) (.agg #[.int .i64 0, .int .i64 0, .int .i64 0, .int .i64 0, .int .i64 0])).run Try.prog W = .ok (.bool true) W := fun W => by
     have h := eqlReq ⟨rc, rn, ro, rx, ry⟩ ⟨0, 0, 0, 0, 0⟩ W
     unfold nullB at hN
     rw [hN] at h
     exact h
    have HNN := Lib.hid hN
    clear hN HS1
    obtain ⟨u0, u1, u2⟩ := T5.out.cells
    obtain ⟨y0, y1, y2, y3, y4⟩ := F4.out.cells
    have HS := Lib.hid hS
    clear hS
    go_wp2_with (fail)
    have hf := implGameDo A1 a1 B1 b1 C1 c1 E1 F1 L1 ⟨rc, rn, ro, rx, ry⟩ wG (by have := LX.out.1; omega) (by have := LX.out.2.1; omega) (by have := LX.out.2.2; omega) G1.out
    rw [HS.out] at hf
    unfold Rq.val at hf
    refine hf.mono ?_
    clear hf
    unfold DoI
    rintro e w8 ⟨A3, a3, B3, b3, C3, c3, rfl, g3, hb⟩
    clear u0 u1 u2 y0 y1 y2 y3 y4
    have T3 := Lib.hid (Three.below T3.out hb T3.out.lt)
    have T5 := Lib.hid (Three.below T5.out hb T5.out.lt)
    have T7 := Lib.hid (Three.below T7.out hb T7.out.lt)
    have F4 := Lib.hid (F4.out.grown (Below.grownBy hb none) (by simp))
    have GT := Lib.hid (GT.out.map (fun _ _ _ h => h.below hb))
    have G1 := Lib.hid (G1.out.below hb)
    have G2 := Lib.hid (G2.out.below hb)
    have Z := Lib.hid (Below.and Z.out hb)
    have hba : Below w8.heap.size w8 (w8.alloc (.cells #[.slice A3 E1.length a3, .slice B3 F1.length b3, .slice C3 L1.length c3] 30)) := (Below.refl _ _).alloc (Nat.le_refl _) _
    have G3 := Lib.hid (g3.gmR.below hba)
    have T9 := Lib.hid (Three.new (u0 := .slice A3 E1.length a3) (u1 := .slice B3 F1.length b3) (u2 := .slice C3 L1.length c3) (t := 30) w8)
    have T3 := Lib.hid (Three.below T3.out hba T3.out.lt)
    have T5 := Lib.hid (Three.below T5.out hba T5.out.lt)
    have T7 := Lib.hid (Three.below T7.out hba T7.out.lt)
    have F4 := Lib.hid (F4.out.grown (Below.grownBy hba none) (by simp))
    have GT := Lib.hid (GT.out.map (fun _ _ _ h => h.below hba))
    have G1 := Lib.hid (G1.out.below hba)
    have G2 := Lib.hid (G2.out.below hba)
    have Z := Lib.hid (Below.and Z.out hba)
    clear hb hba g3
    unfold gameV
    go_upto_region 9 with (fail)
    obtain ⟨p9, hp9⟩ : ∃ Y, Y = w8.heap.size := ⟨_, rfl⟩
    obtain ⟨wH, hwH⟩ : ∃ Y, Y = w8.alloc (.cells #[.slice A3 E1.length a3, .slice B3 F1.length b3, .slice C3 L1.length c3] 30) := ⟨_, rfl⟩
    rw [← hwH] at Z GT T3 F4 T5 G1 T7 G2 T9 G3 ⊢
    rw [← hp9] at T9 ⊢
    clear hwH hp9
    obtain ⟨y0, y1, y2, y3, y4⟩ := F4.out.cells
    obtain ⟨u0, u1, u2⟩ := T5.out.cells
    obtain ⟨v0, v1, v2⟩ := T9.out.cells
    go_wp2_with (fail)
    refine (gameOk A1 a1 B1 b1 C1 c1 E1 F1 L1 _ (by have := LX.out.1; omega) (by have := LX.out.2.1; omega) (by have := LX.out.2.2; omega) G1.out.rE G1.out.rF G1.out.rL).mono ?_
    rintro e wI ⟨rfl, hb⟩
    rw [HG1.out]
    clear y0 y1 y2 y3 y4 u0 u1 u2 v0 v1 v2
    have T3 := Lib.hid (Three.below T3.out hb T3.out.lt)
    have T5 := Lib.hid (Three.below T5.out hb T5.out.lt)
    have T7 := Lib.hid (Three.below T7.out hb T7.out.lt)
    have F4 := Lib.hid (F4.out.grown (Below.grownBy hb none) (by simp))
    have GT := Lib.hid (GT.out.map (fun _ _ _ h => h.below hb))
    have G1 := Lib.hid (G1.out.below hb)
    have G2 := Lib.hid (G2.out.below hb)
    have Z := Lib.hid (Below.and Z.out hb)
    have T9 := Lib.hid (Three.below T9.out hb T9.out.lt)
    have G3 := Lib.hid (G3.out.below hb)
    clear hb
    obtain ⟨u0, u1, u2⟩ := T5.out.cells
    obtain ⟨v0, v1, v2⟩ := T9.out.cells
    go_wp2_with (fail)
    refine (wpGame_rd G3.out.rd G1.out.rd (by have := LX.out.1; omega) (by have := LX.out.2.1; omega) (by have := LX.out.2.2; omega)).mono ?_
    rintro e wJ ⟨rfl, hb⟩
    clear u0 u1 u2 v0 v1 v2
    have T3 := Lib.hid (Three.below T3.out hb T3.out.lt)
    have T5 := Lib.hid (Three.below T5.out hb T5.out.lt)
    have T7 := Lib.hid (Three.below T7.out hb T7.out.lt)
    have F4 := Lib.hid (F4.out.grown (Below.grownBy hb none) (by simp))
    have GT := Lib.hid (GT.out.map (fun _ _ _ h => h.below hb))
    have G1 := Lib.hid (G1.out.below hb)
    have G2 := Lib.hid (G2.out.below hb)
    have Z := Lib.hid (Below.and Z.out hb)
    clear hb
    obtain ⟨u0, u1, u2⟩ := T5.out.cells
    obtain ⟨v0, v1, v2⟩ := T3.out.cells
    go_wp2_with (fail)
    obtain ⟨hE1, hF1, hL1⟩ := HN1.out HNN.out
    have R1 := G1.out.rd
    rw [hE1, hF1, hL1] at R1 ⊢
    refine (wpGame_rd R1 (GT.out.gl.2 HG0.out).rd (by have := LN.out.1; omega) (by have := LN.out.2.1; omega) (by have := LN.out.2.2; omega)).mono ?_
    rintro e wK ⟨rfl, hb⟩
    have Z := Lib.hid (Below.and Z.out hb)
    clear hb u0 u1 u2 v0 v1 v2
    go_wp2
    go_light
    go_ret
    exact ⟨rfl, Z.out⟩

end Go.Proofs.Ytkganikclbeplaa
