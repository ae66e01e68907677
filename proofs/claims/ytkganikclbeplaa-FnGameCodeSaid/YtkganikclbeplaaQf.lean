/- What does not go changes nothing but the number: the law. -/
import Derived.Test.YtkganikclbeplaaNR
import Derived.Test.YtkganikclbeplaaMR
namespace Go.Proofs.Ytkganikclbeplaa
open Go.ChangeShapes Go.WideShapes Go.ChangeAt Go.RowKit
set_option linter.unusedVariables false
set_option linter.unusedSimpArgs false

set_option maxRecDepth 100000 in
set_option maxHeartbeats 8000000 in
theorem lawGameCode {w : World} {A : Option Addr} {n c : Nat} (hm : n ≤ maxLen) (hc : n ≤ c) (hb : InB w A n) :
 Calls Try.prog 7 #[.slice A n c] w fun e w' => e = .returned (.bool true) ∧ Below w.heap.size w w' := by
 have HB := Lib.hid hb
 unfold maxLen at hm
 clear hb
 by_cases hn : ¬ n ≤ 1048576
 · have e1 : decide ((1048576 : Int) < (n : Int)) = true := by simp; omega
   go_enter Try.func7, Try.ntmps7
   go_wp2
   go_ret
   exact ⟨rfl, Below.refl _ _⟩
 have hn : n ≤ 1048576 := by omega
 have e1 : decide ((1048576 : Int) < (n : Int)) = false := by simp; omega
 go_enter Try.func7, Try.ntmps7
 go_wp2_with (fail)
 refine (drawGameDo hn hc HB.out).mono ?_
 rintro e w1 ⟨A0, a0, B0, b0, C0, c0, E, F, L, ⟨rc, rn, ro, rx, ry⟩, rfl, gt, hln, h1⟩
 have hba : Below w1.heap.size w1 ((w1.alloc (.cells #[.slice A0 E.length a0, .slice B0 F.length b0, .slice C0 L.length c0] 30)).alloc (.cells #[.int .i64 rc, .int .i64 rn, .int .i64 ro, .int .i64 rx, .int .i64 ry] 39)) := below_alloc2 w1 _ _
 have Z := Lib.hid (Below.and h1 hba)
 have GT := Lib.hid (gt.map (fun _ _ _ h => h.below hba))
 have T3 := Lib.hid ((Three.new (u0 := .slice A0 E.length a0) (u1 := .slice B0 F.length b0) (u2 := .slice C0 L.length c0) (t := 30) w1).alloc (.cells #[.int .i64 rc, .int .i64 rn, .int .i64 ro, .int .i64 rx, .int .i64 ry] 39))
 have F4 : Hid (Five ((w1.alloc (.cells #[.slice A0 E.length a0, .slice B0 F.length b0, .slice C0 L.length c0] 30)).alloc (.cells #[.int .i64 rc, .int .i64 rn, .int .i64 ro, .int .i64 rx, .int .i64 ry] 39)) (w1.heap.size + 1) 39 (.int .i64 rc) (.int .i64 rn) (.int .i64 ro) (.int .i64 rx) (.int .i64 ry)) := by have := Five.new (u0 := .int .i64 rc) (u1 := .int .i64 rn) (u2 := .int .i64 ro) (u3 := .int .i64 rx) (u4 := .int .i64 ry) (t := 39) (w1.alloc (.cells #[.slice A0 E.length a0, .slice B0 F.length b0, .slice C0 L.length c0] 30)); simpa [Hid] using this
 have LN := Lib.hid hln
 clear gt hln h1 hba HB
 unfold gameV
 go_upto_region 4 with (fail)
 obtain ⟨p3, hp3⟩ : ∃ Y, Y = w1.heap.size := ⟨_, rfl⟩
 obtain ⟨wA, hwA⟩ : ∃ Y, Y = ((w1.alloc (.cells #[.slice A0 E.length a0, .slice B0 F.length b0, .slice C0 L.length c0] 30)).alloc (.cells #[.int .i64 rc, .int .i64 rn, .int .i64 ro, .int .i64 rx, .int .i64 ry] 39)) := ⟨_, rfl⟩
 rw [← hwA] at Z GT T3 F4 ⊢
 rw [← hp3] at T3 F4 ⊢
 clear hwA hp3
 obtain ⟨⟨⟨E1, F1, L1⟩, x1⟩, hX⟩ : ∃ X : Gm × Int, X = stepG E F L ⟨rc, rn, ro, rx, ry⟩ := ⟨_, rfl⟩
 have hlen := stepG_len E F L ⟨rc, rn, ro, rx, ry⟩
 rw [← hX] at hlen
 simp only at hlen
 have LX := Lib.hid hlen
 have HX := Lib.hid hX
 clear hX hlen
 obtain ⟨p0, p1, p2⟩ := T3.out.cells
 obtain ⟨y0, y1, y2, y3, y4⟩ := F4.out.cells
 go_wp2_with (fail)
 have hf := implGameDoT (w := wA) (r := ⟨rc, rn, ro, rx, ry⟩) GT.out (by have := LN.out.1; omega) (by have := LN.out.2.1; omega) (by have := LN.out.2.2; omega)
 rw [← HX.out] at hf
 unfold Rq.val at hf
 refine hf.mono ?_
 clear hf
 unfold DoI
 rintro e w2 ⟨A1, a1, B1, b1, C1, c1, rfl, g1, hb⟩
 have hba : Below w2.heap.size w2 (w2.alloc (.cells #[.slice A1 E1.length a1, .slice B1 F1.length b1, .slice C1 L1.length c1] 30)) := (Below.refl _ _).alloc (Nat.le_refl _) _
 have G1 := Lib.hid (g1.gmR.below hba)
 have T5 := Lib.hid (Three.new (u0 := .slice A1 E1.length a1) (u1 := .slice B1 F1.length b1) (u2 := .slice C1 L1.length c1) (t := 30) w2)
 have GT := Lib.hid (GT.out.map (fun _ _ _ h => (h.below hb).below hba))
 have T3 := Lib.hid (Three.below (Three.below T3.out hb T3.out.lt) hba (by have := T3.out.lt; have := hb.size; omega))
 have F4 := Lib.hid ((F4.out.grown (Below.grownBy hb none) (by simp)).grown (Below.grownBy hba none) (by simp))
 have Z := Lib.hid (Below.and (Below.and Z.out hb) hba)
 clear hb hba g1 p0 p1 p2 y0 y1 y2 y3 y4
 unfold gameV
 go_upto_region 5 with (fail)
 obtain ⟨p5, hp5⟩ : ∃ Y, Y = w2.heap.size := ⟨_, rfl⟩
 obtain ⟨wB, hwB⟩ : ∃ Y, Y = w2.alloc (.cells #[.slice A1 E1.length a1, .slice B1 F1.length b1, .slice C1 L1.length c1] 30) := ⟨_, rfl⟩
 rw [← hwB] at Z GT T3 F4 T5 G1 ⊢
 rw [← hp5] at T5 ⊢
 clear hwB hp5
 obtain ⟨p0, p1, p2⟩ := T3.out.cells
 obtain ⟨y0, y1, y2, y3, y4⟩ := F4.out.cells
 go_wp2_with (fail)
 have hf := specGameDoT (w := wB) (r := ⟨rc, rn, ro, rx, ry⟩) GT.out (by have := LN.out.1; omega) (by have := LN.out.2.1; omega) (by have := LN.out.2.2; omega)
 rw [← HX.out] at hf
 unfold Rq.val at hf
 refine hf.mono ?_
 clear hf
 unfold DoR
 rintro e w3 ⟨A2, a2, B2, b2, C2, c2, rfl, g2, hb⟩
 have hba : Below w3.heap.size w3 (w3.alloc (.cells #[.slice A2 E1.length a2, .slice B2 F1.length b2, .slice C2 L1.length c2] 30)) := (Below.refl _ _).alloc (Nat.le_refl _) _
 have G2 := Lib.hid (g2.below hba)
 have T7 := Lib.hid (Three.new (u0 := .slice A2 E1.length a2) (u1 := .slice B2 F1.length b2) (u2 := .slice C2 L1.length c2) (t := 30) w3)
 have G1 := Lib.hid ((G1.out.below hb).below hba)
 have T5 := Lib.hid (Three.below (Three.below T5.out hb T5.out.lt) hba (by have := T5.out.lt; have := hb.size; omega))
 have GT := Lib.hid (GT.out.map (fun _ _ _ h => (h.below hb).below hba))
 have T3 := Lib.hid (Three.below (Three.below T3.out hb T3.out.lt) hba (by have := T3.out.lt; have := hb.size; omega))
 have F4 := Lib.hid ((F4.out.grown (Below.grownBy hb none) (by simp)).grown (Below.grownBy hba none) (by simp))
 have Z := Lib.hid (Below.and (Below.and Z.out hb) hba)
 clear hb hba g2 p0 p1 p2 y0 y1 y2 y3 y4
 unfold gameV
 go_upto_region 6 with (fail)
 obtain ⟨p7, hp7⟩ : ∃ Y, Y = w3.heap.size := ⟨_, rfl⟩
 obtain ⟨wC, hwC⟩ : ∃ Y, Y = w3.alloc (.cells #[.slice A2 E1.length a2, .slice B2 F1.length b2, .slice C2 L1.length c2] 30) := ⟨_, rfl⟩
 rw [← hwC] at Z GT T3 F4 T5 G1 T7 G2 ⊢
 rw [← hp7] at T7 ⊢
 clear hwC hp7
 have xx : (x1 != x1) = false := by simp
 have xe : (x1 == x1) = true := by simp
 obtain ⟨u0, u1, u2⟩ := T5.out.cells
 obtain ⟨v0, v1, v2⟩ := T7.out.cells
 go_wp2_with (fail)
 refine (wpGame_rd G1.out.rd G2.out.rd (by have := LX.out.1; omega) (by have := LX.out.2.1; omega) (by have := LX.out.2.2; omega)).mono ?_
 rintro e wD ⟨rfl, hb⟩
 clear u0 u1 u2 v0 v1 v2
 have T3 := Lib.hid (Three.below T3.out hb T3.out.lt)
 have T5 := Lib.hid (Three.below T5.out hb T5.out.lt)
 have T7 := Lib.hid (Three.below T7.out hb T7.out.lt)
 have F4 := Lib.hid (F4.out.grown (Below.grownBy hb none) (by simp))
 have GT := Lib.hid (GT.out.map (fun _ _ _ h => h.below hb))
 have G1 := Lib.hid (G1.out.below hb)
 have G2 := Lib.hid (G2.out.below hb)
 have Z := Lib.hid (Below.and Z.out hb)
 clear hb
 by_cases hok : gokB E F L = true ∧ okB ⟨rc, rn, ro, rx, ry⟩ = true
 case neg =>
  have hX1 : x1 = 1 := by
   have h := HX.out
   unfold stepG at h
   rw [if_neg hok] at h
   exact congrArg Prod.snd h
  have x11 : (x1 == 1) = true := by simp [hX1]
  clear hX1 hok
  obtain ⟨u0, u1, u2⟩ := T5.out.cells
  obtain ⟨v0, v1, v2⟩ := T7.out.cells
  go_wp2_with (fail)
  refine (wpGame_rd G1.out.rd G2.out.rd (by have := LX.out.1; omega) (by have := LX.out.2.1; omega) (by have := LX.out.2.2; omega)).mono ?_
  rintro e wE ⟨rfl, hb⟩
  have Z := Lib.hid (Below.and Z.out hb)
  clear hb u0 u1 u2 v0 v1 v2
  go_wp2
  go_light
  go_ret
  exact ⟨rfl, Z.out⟩
 case pos =>
  obtain ⟨hg, hr⟩ := hok
  have HD := HX.out
  rw [stepG_ok hg hr] at HD
  have a3k := (stepG_again hg hr HD).2.2.1
  have x11 : (x1 == 1) = false := by simpa using a3k
  clear a3k
  have HG0 := Lib.hid hg
  by_cases h2 : x1 = 2
  · have x12 : (x1 == 2) = true := by simp [h2]
    clear h2 hg hr HD
    obtain ⟨u0, u1, u2⟩ := T5.out.cells
    obtain ⟨v0, v1, v2⟩ := T7.out.cells
    go_wp2_with (fail)
    refine (wpGame_rd G1.out.rd G2.out.rd (by have := LX.out.1; omega) (by have := LX.out.2.1; omega) (by have := LX.out.2.2; omega)).mono ?_
    rintro e wE ⟨rfl, hb⟩
    have Z := Lib.hid (Below.and Z.out hb)
    clear hb u0 u1 u2 v0 v1 v2
    go_wp2
    go_light
    go_ret
    exact ⟨rfl, Z.out⟩
  have x12 : (x1 == 2) = false := by simpa using h2
  obtain ⟨_, hc4, hl4, hl41, hget, hor⟩ := doG_code5 hg hr HD h2
  simp only at hc4
  obtain ⟨k, rfl⟩ : ∃ k : Nat, rc = (k : Int) + 1 := ⟨(rc - 1).toNat, by omega⟩
  have hk : k < L.length := by omega
  have hk1 : k < L1.length := by omega
  have HOR := Lib.hid hor
  have hget : L1[k]'hk1 = (if x1 = 3 then L[k]'hk else rn) := by
   have h := hget
   simp only [show ((k : Int) + 1 - 1).toNat = k by omega, List.getD_eq_getElem?_getD, List.getElem?_eq_getElem hk, List.getElem?_eq_getElem hk1, Option.getD_some] at h
   exact h
  obtain ⟨gC, rfl, hcC⟩ := (GT.out.gl.2 hg).rL k hk
  obtain ⟨g1, rfl, hc1⟩ := G1.out.rL k hk1
  have j1 : (k : Int) < (L.length : Int) := by omega
  have j2 : (k : Int) < (L1.length : Int) := by omega
  have i0 : (0 : Int) ≤ (k : Int) := by omega
  have ek : IntKind.i64.wrap ((k : Int) + 1 - 1) = k := by rw [show (k : Int) + 1 - 1 = k by omega]; exact IntWalk.i64_in _ (by omega)
  generalize L1[k] = v1x at hget hc1
  generalize L[k] = vx at hget hcC
  have hkb : (k : Int) ≤ 3 := by omega
  have ek2 : IntKind.i64.wrap (k : Int) = k := IntWalk.i64_in _ (by omega)
  clear hg hr HD h2 hor hl4 hl41 ek
  obtain ⟨y0, y1, y2, y3, y4⟩ := F4.out.cells
  obtain ⟨s0, s1, s2⟩ := T3.out.cells
  obtain ⟨u0, u1, u2⟩ := T5.out.cells
  have lp3 : p3 < wD.heap.size := T3.out.lt
  by_cases h3 : x1 = 3
  · have x13 : (x1 == 3) = true := by simp [h3]
    have hvv : (v1x != vx) = false := by simp [hget, h3]
    clear hget h3
    by_cases h0 : x1 = 0
    · have x10 : (x1 == 0) = true := by simp [h0]
      clear h0
      go_wp2
      go_light
      go_ret
      exact ⟨rfl, Z.out.alloc Z.out.size _⟩
    · have x10 : (x1 == 0) = false := by simpa using h0
      obtain ⟨hE1, hF1⟩ := HOR.out.resolve_left h0
      clear h0
      subst hE1 hF1
      go_upto_region 15 with (fail)
      have hba : Below wD.heap.size wD (wD.alloc (.cells #[.slice A1 E1.length a1, .slice B1 F1.length b1, .slice (some ⟨gC, 0, none⟩) L.length c0] 30)) := (Below.refl _ _).alloc (Nat.le_refl _) _
      have T10 := Lib.hid (Three.new (u0 := .slice A1 E1.length a1) (u1 := .slice B1 F1.length b1) (u2 := .slice (some ⟨gC, 0, none⟩) L.length c0) (t := 30) wD)
      have T3 := Lib.hid (Three.below T3.out hba T3.out.lt)
      have R1 := Lib.hid (G1.out.below hba).rd
      have R0 := Lib.hid ((GT.out.gl.2 HG0.out).below hba).rd
      have Z := Lib.hid (Below.and Z.out hba)
      clear hba
      obtain ⟨p10, hp10⟩ : ∃ Y, Y = wD.heap.size := ⟨_, rfl⟩
      obtain ⟨wE, hwE⟩ : ∃ Y, Y = wD.alloc (.cells #[.slice A1 E1.length a1, .slice B1 F1.length b1, .slice (some ⟨gC, 0, none⟩) L.length c0] 30) := ⟨_, rfl⟩
      rw [← hwE] at T10 T3 R1 R0 Z ⊢
      rw [← hp10] at T10 ⊢
      clear hwE hp10
      obtain ⟨u0, u1, u2⟩ := T10.out.cells
      obtain ⟨v0, v1, v2⟩ := T3.out.cells
      go_wp2_with (fail)
      refine (wpGame_rd (C := some ⟨gC, 0, none⟩) ⟨R1.out.e, R1.out.f, R0.out.l, R1.out.ae, R1.out.bf, R0.out.cl⟩ R0.out (by have := LN.out.1; omega) (by have := LN.out.2.1; omega) (by have := LN.out.2.2; omega)).mono ?_
      rintro e wF ⟨rfl, hb⟩
      have Z := Lib.hid (Below.and Z.out hb)
      clear hb u0 u1 u2 v0 v1 v2
      go_wp2
      go_light
      go_ret
      exact ⟨rfl, Z.out⟩
  · have x13 : (x1 == 3) = false := by simpa using h3
    have hvv : (v1x != rn) = false := by simp [hget, h3]
    clear hget h3
    by_cases h0 : x1 = 0
    · have x10 : (x1 == 0) = true := by simp [h0]
      clear h0
      go_wp2
      go_light
      go_ret
      exact ⟨rfl, Z.out.alloc Z.out.size _⟩
    · have x10 : (x1 == 0) = false := by simpa using h0
      obtain ⟨hE1, hF1⟩ := HOR.out.resolve_left h0
      clear h0
      subst hE1 hF1
      go_upto_region 15 with (fail)
      have hba : Below wD.heap.size wD (wD.alloc (.cells #[.slice A1 E1.length a1, .slice B1 F1.length b1, .slice (some ⟨gC, 0, none⟩) L.length c0] 30)) := (Below.refl _ _).alloc (Nat.le_refl _) _
      have T10 := Lib.hid (Three.new (u0 := .slice A1 E1.length a1) (u1 := .slice B1 F1.length b1) (u2 := .slice (some ⟨gC, 0, none⟩) L.length c0) (t := 30) wD)
      have T3 := Lib.hid (Three.below T3.out hba T3.out.lt)
      have R1 := Lib.hid (G1.out.below hba).rd
      have R0 := Lib.hid ((GT.out.gl.2 HG0.out).below hba).rd
      have Z := Lib.hid (Below.and Z.out hba)
      clear hba
      obtain ⟨p10, hp10⟩ : ∃ Y, Y = wD.heap.size := ⟨_, rfl⟩
      obtain ⟨wE, hwE⟩ : ∃ Y, Y = wD.alloc (.cells #[.slice A1 E1.length a1, .slice B1 F1.length b1, .slice (some ⟨gC, 0, none⟩) L.length c0] 30) := ⟨_, rfl⟩
      rw [← hwE] at T10 T3 R1 R0 Z ⊢
      rw [← hp10] at T10 ⊢
      clear hwE hp10
      obtain ⟨u0, u1, u2⟩ := T10.out.cells
      obtain ⟨v0, v1, v2⟩ := T3.out.cells
      go_wp2_with (fail)
      refine (wpGame_rd (C := some ⟨gC, 0, none⟩) ⟨R1.out.e, R1.out.f, R0.out.l, R1.out.ae, R1.out.bf, R0.out.cl⟩ R0.out (by have := LN.out.1; omega) (by have := LN.out.2.1; omega) (by have := LN.out.2.2; omega)).mono ?_
      rintro e wF ⟨rfl, hb⟩
      have Z := Lib.hid (Below.and Z.out hb)
      clear hb u0 u1 u2 v0 v1 v2
      go_wp2
      go_light
      go_ret
      exact ⟨rfl, Z.out⟩

end Go.Proofs.Ytkganikclbeplaa
