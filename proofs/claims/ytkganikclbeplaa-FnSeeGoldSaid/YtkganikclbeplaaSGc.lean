/- A game drawn; all gold is with figures, or on the floor: the law. -/
import Derived.Test.YtkganikclbeplaaNR
import Derived.Test.YtkganikclbeplaaSGa
namespace Go.Proofs.Ytkganikclbeplaa
open Go.ChangeShapes Go.WideShapes Go.ChangeAt Go.RowKit
set_option linter.unusedVariables false
set_option linter.unusedSimpArgs false

theorem InB.bel {w w' : World} {A : Option Addr} {n : Nat} (h : InB w A n) (hb : Below w.heap.size w w') : InB w' A n := fun i hi => by
 obtain ⟨b, off, u, h1, h2, h3⟩ := h i hi
 exact ⟨b, off, u, h1, cell_kept hb h2, h3⟩

set_option maxRecDepth 100000 in
set_option maxHeartbeats 4000000 in
theorem drawSeeGold {w : World} {A : Option Addr} {n c : Nat} (hn : n ≤ 1048576) (hc : n ≤ c) (hb : InB w A n) :
 Calls Try.prog 15 #[.slice A n c] w fun e w' => ∃ (A' : Option Addr) (a : Nat) (B : Option Addr) (b : Nat) (C : Option Addr) (d : Nat) (E : List Fig) (F L : List Int), e = .returned (gameV A' E.length a B F.length b C L.length d) ∧ GmT w' w.heap.size A' a B b C d E F L ∧ (E.length ≤ 4 ∧ F.length = 16 ∧ L.length ≤ 4) ∧ Below w.heap.size w w' := by
 have HB := Lib.hid (hb.alc (.cells #[.slice none 0 0, .slice none 0 0, .slice none 0 0] 30))
 have T2 := Lib.hid (Three.new (u0 := .slice none 0 0) (u1 := .slice none 0 0) (u2 := .slice none 0 0) (t := 30) w)
 have BL := Lib.hid ((Below.refl w.heap.size w).alloc (Nat.le_refl _) (.cells #[.slice none 0 0, .slice none 0 0, .slice none 0 0] 30))
 clear hb
 go_enter Try.func15, Try.ntmps15
 go_wp2_with (fail)
 refine (l20Open hn hc HB.out).mono ?_
 rintro e wa ⟨m, rfl, hr, hbl⟩
 have hr : Reader wa (w.heap.size + 1) A m c 0 := by simpa using hr
 have RD := Lib.hid hr
 have T2 := Lib.hid (Three.below T2.out hbl T2.out.lt)
 have BL := Lib.hid (Below.and BL.out hbl)
 have hRl := hr.lt
 clear hr hbl HB
 go_wp2_with (fail)
 refine (l20AnyGame RD.out (by omega)).mono ?_
 rintro e wb ⟨A1, a1, B1, b1, C1, c1, E, F, L, rfl, gt, hln, q1, q10, q11, hr, hgr⟩
 have LN := Lib.hid hln
 have hsz := hgr.size
 have BL := Lib.hid (BL.out.grown hgr BL.out.size (fun k hk => by injection hk with hk; omega))
 have T2 := Lib.hid (T2.out.grown hgr (by first | (simp; done) | (simp; omega)))
 have GT := Lib.hid gt
 clear hr hgr RD gt hln
 obtain ⟨z0, z1, z2⟩ := T2.out.cells
 have zf := T2.out.frozen
 have lz := T2.out.lt
 have GG := GT
 have BG := BL
 clear T2 GT BL
 unfold gameV
 go_wp2
 refine bodyPost_ret (v := gameV A1 E.length a1 B1 F.length b1 C1 L.length c1) (by simp [results, Try.results15, go_sem, gameV, z0, z1, z2]) rfl ⟨A1, a1, B1, b1, C1, c1, E, F, L, rfl, ?_, LN.out, ?_⟩
 · refine GG.out.map (fun _ _ _ h => ?_)
   exact OwG.base (OwG.put (OwG.put (OwG.put h (q := w.heap.size) (by omega) 0 _) (q := w.heap.size) (by omega) 1 _) (q := w.heap.size) (by omega) 2 _) (by omega)
 · iterate 3 (refine Below.setCell ?_ (by first | (simp; done) | (simp; omega)) _)
   exact BG.out

theorem seeT_len (E : List Fig) (F L : List Int) (hE : E.length ≤ 1048576) (hF : F.length ≤ 1048576) : -1 ≤ (seeT E F L).1 ∧ (seeT E F L).1 ≤ 20 ∧ -1 ≤ (seeT E F L).2 ∧ (seeT E F L).2 ≤ 20 := by
 unfold seeT
 split
 · rename_i h
   obtain ⟨h1, h2, h3⟩ := gokB_gold h
   have := gold_bd E h1
   have := sum_bd F h2
   simp only
   omega
 · simp
theorem seeT_ok {E : List Fig} {F L : List Int} (h : gokB E F L = true) : 0 ≤ (seeT E F L).1 ∧ (seeT E F L).1 + (seeT E F L).2 = 20 := by
 unfold seeT
 rw [if_pos h]
 obtain ⟨h1, h2, h3⟩ := gokB_gold h
 have := gold_bd E h1
 exact ⟨by simp only; omega, h3⟩

set_option maxRecDepth 100000 in
set_option maxHeartbeats 8000000 in
theorem lawSeeGold {w : World} {A A' : Option Addr} {n c n' c' : Nat} (hm : n ≤ maxLen) (hm' : n' ≤ maxLen) (hc : n ≤ c) (hc' : n' ≤ c') (hb : InB w A n) (hb' : InB w A' n') :
 Calls Try.prog 5 #[.slice A n c, .slice A' n' c'] w fun e w' => e = .returned (.bool true) ∧ Below w.heap.size w w' := by
 have HB := Lib.hid hb
 have HB' := Lib.hid hb'
 unfold maxLen at hm hm'
 clear hb hb'
 by_cases hn : ¬ n ≤ 1048576
 · have e1 : decide ((1048576 : Int) < (n : Int)) = true := by simp; omega
   go_enter Try.func5, Try.ntmps5
   go_wp2
   go_ret
   exact ⟨rfl, Below.refl _ _⟩
 have hn : n ≤ 1048576 := by omega
 have e1 : decide ((1048576 : Int) < (n : Int)) = false := by simp; omega
 by_cases hn' : ¬ n' ≤ 1048576
 · have e2 : decide ((1048576 : Int) < (n' : Int)) = true := by simp; omega
   go_enter Try.func5, Try.ntmps5
   go_wp2
   go_ret
   exact ⟨rfl, Below.refl _ _⟩
 have hn' : n' ≤ 1048576 := by omega
 have e2 : decide ((1048576 : Int) < (n' : Int)) = false := by simp; omega
 go_enter Try.func5, Try.ntmps5
 go_wp2_with (fail)
 refine (drawSeeGold hn hc HB.out).mono ?_
 rintro e w1 ⟨A0, a0, B0, b0, C0, c0, E, F, L, rfl, gt, hln, h1⟩
 have hba : Below w1.heap.size w1 (w1.alloc (.cells #[.slice A0 E.length a0, .slice B0 F.length b0, .slice C0 L.length c0] 30)) := (Below.refl _ _).alloc (Nat.le_refl _) _
 have Z := Lib.hid (Below.and h1 hba)
 have GT := Lib.hid (gt.map (fun _ _ _ h => h.below hba))
 have T3 := Lib.hid (Three.new (u0 := .slice A0 E.length a0) (u1 := .slice B0 F.length b0) (u2 := .slice C0 L.length c0) (t := 30) w1)
 have LN := Lib.hid hln
 clear gt hln h1 hba HB
 obtain ⟨sa, hsa⟩ : ∃ x, (seeT E F L).1 = x := ⟨_, rfl⟩
 obtain ⟨sb, hsb⟩ : ∃ x, (seeT E F L).2 = x := ⟨_, rfl⟩
 have HSA := Lib.hid hsa
 have HSB := Lib.hid hsb
 have hbd := seeT_len E F L (by have := LN.out.1; omega) (by have := LN.out.2.1; omega)
 rw [hsa, hsb] at hbd
 obtain ⟨d1, d2, d3, d4⟩ := hbd
 clear hsa hsb
 unfold gameV
 go_upto_region 4 with (fail)
 obtain ⟨p3, hp3⟩ : ∃ Y, Y = w1.heap.size := ⟨_, rfl⟩
 obtain ⟨wA, hwA⟩ : ∃ Y, Y = w1.alloc (.cells #[.slice A0 E.length a0, .slice B0 F.length b0, .slice C0 L.length c0] 30) := ⟨_, rfl⟩
 rw [← hwA] at Z GT T3 ⊢
 rw [← hp3] at T3 ⊢
 clear hwA hp3
 obtain ⟨p0, p1, p2⟩ := T3.out.cells
 go_wp2_with (fail)
 refine (implSeeGold A0 a0 B0 b0 C0 c0 E F L _ (by have := LN.out.1; omega) (by have := LN.out.2.1; omega) (by have := LN.out.2.2; omega) GT.out.gl.1.rE GT.out.gl.1.rF GT.out.gl.1.r4).mono ?_
 rintro e w2 ⟨rfl, hb⟩
 rw [HSA.out, HSB.out]
 clear p0 p1 p2
 have GT := Lib.hid (GT.out.map (fun _ _ _ h => h.below hb))
 have T3 := Lib.hid (Three.below T3.out hb T3.out.lt)
 have Z := Lib.hid (Below.and Z.out hb)
 clear hb
 obtain ⟨p0, p1, p2⟩ := T3.out.cells
 go_wp2_with (fail)
 refine (specSeeGold A0 a0 B0 b0 C0 c0 E F L _ (by have := LN.out.1; omega) (by have := LN.out.2.1; omega) (by have := LN.out.2.2; omega) GT.out.gl.1.rE GT.out.gl.1.rF GT.out.gl.1.rL).mono ?_
 rintro e w3 ⟨rfl, hb⟩
 rw [HSA.out, HSB.out]
 clear p0 p1 p2
 have GT := Lib.hid (GT.out.map (fun _ _ _ h => h.below hb))
 have T3 := Lib.hid (Three.below T3.out hb T3.out.lt)
 have Z := Lib.hid (Below.and Z.out hb)
 clear hb
 have aa : (sa != sa) = false := by simp
 have ab : (sb != sb) = false := by simp
 rcases hg : gokB E F L with _ | _
 · have hx := HSA.out
   have hy := HSB.out
   have hE : seeT E F L = (-1, -1) := by unfold seeT; rw [hg]; rfl
   rw [hE] at hx hy
   simp only at hx hy
   subst hx hy
   have HG := Lib.hid hg
   clear hg hE aa ab HSA HSB d1 d2 d3 d4
   obtain ⟨p0, p1, p2⟩ := T3.out.cells
   go_wp2_with (fail)
   refine (gameOkJ A0 a0 B0 b0 C0 c0 E F L _ (by have := LN.out.1; omega) (by have := LN.out.2.1; omega) (by have := LN.out.2.2; omega) GT.out.gl.1.rE GT.out.gl.1.rF GT.out.gl.1.r4).mono ?_
   rintro e w4 ⟨rfl, hb⟩
   rw [HG.out]
   go_wp2
   go_light
   go_ret
   exact ⟨rfl, Below.and Z.out hb⟩
 have h20 := seeT_ok hg
 rw [HSA.out, HSB.out] at h20
 obtain ⟨d5, d6⟩ := h20
 have a0' : decide (sa < 0) = false := by simp; omega
 have HG := Lib.hid hg
 clear hg HSA HSB
 go_wp2_with (fail)
 refine (drawGameDo hn' hc' (InB.bel HB'.out Z.out)).mono ?_
 rintro e w4 ⟨A9, a9, B9, b9, C9, c9, E9, F9, L9, ⟨rc, rn, ro, rx, ry⟩, rfl, gt9, hln9, hb⟩
 have hba : Below w4.heap.size w4 ((w4.alloc (.cells #[.slice A9 E9.length a9, .slice B9 F9.length b9, .slice C9 L9.length c9] 30)).alloc (.cells #[.int .i64 rc, .int .i64 rn, .int .i64 ro, .int .i64 rx, .int .i64 ry] 39)) := below_alloc2 w4 _ _
 have F4 : Hid (Five ((w4.alloc (.cells #[.slice A9 E9.length a9, .slice B9 F9.length b9, .slice C9 L9.length c9] 30)).alloc (.cells #[.int .i64 rc, .int .i64 rn, .int .i64 ro, .int .i64 rx, .int .i64 ry] 39)) (w4.heap.size + 1) 39 (.int .i64 rc) (.int .i64 rn) (.int .i64 ro) (.int .i64 rx) (.int .i64 ry)) := by have := Five.new (u0 := .int .i64 rc) (u1 := .int .i64 rn) (u2 := .int .i64 ro) (u3 := .int .i64 rx) (u4 := .int .i64 ry) (t := 39) (w4.alloc (.cells #[.slice A9 E9.length a9, .slice B9 F9.length b9, .slice C9 L9.length c9] 30)); simpa [Hid] using this
 have GT := Lib.hid (GT.out.map (fun _ _ _ h => h.below hb))
 have T3 := Lib.hid (Three.below T3.out hb T3.out.lt)
 have Z := Lib.hid (Below.and Z.out hb)
 have GT := Lib.hid (GT.out.map (fun _ _ _ h => h.below hba))
 have T3 := Lib.hid (Three.below T3.out hba T3.out.lt)
 have Z := Lib.hid (Below.and Z.out hba)
 clear gt9 hln9 hb hba HB'
 unfold gameV
 go_upto_region 9 with (fail)
 obtain ⟨p6, hp6⟩ : ∃ Y, Y = w4.heap.size := ⟨_, rfl⟩
 obtain ⟨wB, hwB⟩ : ∃ Y, Y = (w4.alloc (.cells #[.slice A9 E9.length a9, .slice B9 F9.length b9, .slice C9 L9.length c9] 30)).alloc (.cells #[.int .i64 rc, .int .i64 rn, .int .i64 ro, .int .i64 rx, .int .i64 ry] 39) := ⟨_, rfl⟩
 rw [← hwB] at Z GT T3 F4 ⊢
 rw [← hp6] at F4 ⊢
 clear hwB hp6
 obtain ⟨⟨⟨E1, F1, L1⟩, x1⟩, hX⟩ : ∃ X : Gm × Int, X = stepG E F L ⟨rc, rn, ro, rx, ry⟩ := ⟨_, rfl⟩
 have hlen := stepG_len E F L ⟨rc, rn, ro, rx, ry⟩
 rw [← hX] at hlen
 simp only at hlen
 have LX := Lib.hid hlen
 have HX := Lib.hid hX
 clear hX hlen
 obtain ⟨p0, p1, p2⟩ := T3.out.cells
 obtain ⟨y0, y1, y2, y3, y4⟩ := F4.out.cells
 go_wp2_with (fail)
 have hf := implGameDoT (w := wB) (r := ⟨rc, rn, ro, rx, ry⟩) GT.out (by have := LN.out.1; omega) (by have := LN.out.2.1; omega) (by have := LN.out.2.2; omega)
 rw [← HX.out] at hf
 unfold Rq.val at hf
 refine hf.mono ?_
 clear hf
 unfold DoI
 rintro e w5 ⟨A2, a2, B2, b2, C2, c2, rfl, g2, hb⟩
 have hba : Below w5.heap.size w5 (w5.alloc (.cells #[.slice A2 E1.length a2, .slice B2 F1.length b2, .slice C2 L1.length c2] 30)) := (Below.refl _ _).alloc (Nat.le_refl _) _
 have G2 := Lib.hid (g2.gmR.below hba)
 have T5 := Lib.hid (Three.new (u0 := .slice A2 E1.length a2) (u1 := .slice B2 F1.length b2) (u2 := .slice C2 L1.length c2) (t := 30) w5)
 have Z := Lib.hid (Below.and (Below.and Z.out hb) hba)
 clear hb hba g2 p0 p1 p2 y0 y1 y2 y3 y4 T3 F4 GT
 unfold gameV
 go_upto_region 10 with (fail)
 obtain ⟨p7, hp7⟩ : ∃ Y, Y = w5.heap.size := ⟨_, rfl⟩
 obtain ⟨wC, hwC⟩ : ∃ Y, Y = w5.alloc (.cells #[.slice A2 E1.length a2, .slice B2 F1.length b2, .slice C2 L1.length c2] 30) := ⟨_, rfl⟩
 rw [← hwC] at Z T5 G2 ⊢
 rw [← hp7] at T5 ⊢
 clear hwC hp7
 obtain ⟨p0, p1, p2⟩ := T5.out.cells
 obtain ⟨ta, hta⟩ : ∃ x, (seeT E1 F1 L1).1 = x := ⟨_, rfl⟩
 obtain ⟨tb, htb⟩ : ∃ x, (seeT E1 F1 L1).2 = x := ⟨_, rfl⟩
 have hbd := seeT_len E1 F1 L1 (by have := LX.out.1; omega) (by have := LX.out.2.1; omega)
 rw [hta, htb] at hbd
 obtain ⟨f1, f2, f3, f4⟩ := hbd
 have hxx : Hid (x1 ≠ 1 → ta + tb = 20) := fun hne => by
  by_cases hok : okB ⟨rc, rn, ro, rx, ry⟩ = true
  · have HD := HX.out
    rw [stepG_ok HG.out hok] at HD
    have h := (seeT_ok (stepG_again HG.out hok HD).1).2
    rw [hta, htb] at h
    exact h
  · have h := HX.out
    unfold stepG at h
    rw [if_neg (fun h => hok h.2)] at h
    exact absurd (congrArg Prod.snd h) hne
 have HTA := Lib.hid hta
 have HTB := Lib.hid htb
 clear hta htb
 go_wp2_with (fail)
 refine (implSeeGold A2 a2 B2 b2 C2 c2 E1 F1 L1 _ (by have := LX.out.1; omega) (by have := LX.out.2.1; omega) (by have := LX.out.2.2; omega) G2.out.rE G2.out.rF (fun _ => G2.out.rL)).mono ?_
 rintro e w6 ⟨rfl, hb⟩
 rw [HTA.out, HTB.out]
 clear p0 p1 p2
 have Z := Lib.hid (Below.and Z.out hb)
 clear hb HTA HTB G2 T5
 have g1 : IntKind.i64.wrap (sa + sb) = sa + sb := IntWalk.i64_in _ (by omega)
 have g2 : IntKind.i64.wrap (ta + tb) = ta + tb := IntWalk.i64_in _ (by omega)
 have g3 : (sa + sb == 20) = true := by simp [d6]
 by_cases hx1 : x1 = 1
 · have b1 : (x1 == 1) = true := by simp [hx1]
   clear hx1 hxx
   go_wp2
   go_light
   go_ret
   exact ⟨rfl, Z.out⟩
 · have b1 : (x1 == 1) = false := by simpa using hx1
   have b2 : (ta + tb == 20) = true := by simp [hxx.out hx1]
   clear hx1 hxx
   go_wp2
   go_light
   go_ret
   exact ⟨rfl, Z.out⟩
end Go.Proofs.Ytkganikclbeplaa
