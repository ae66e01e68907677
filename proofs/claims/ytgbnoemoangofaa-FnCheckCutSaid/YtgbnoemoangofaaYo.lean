/- Checksums of later places: the law. -/
import Derived.Test.YtgbnoemoangofaaYn
import Derived.Test.YtgbnoemoangofaaYh
import Derived.Test.YtgbnoemoangofaaYf
namespace Go.Proofs.Ytgbnoemoangofaa
open Go.ChangeShapes Go.WideShapes Go.ChangeAt Go.RowKit
set_option linter.unusedVariables false
set_option linter.unusedSimpArgs false

set_option maxRecDepth 100000 in
set_option maxHeartbeats 2000000 in
theorem wpChecks_rd (A B : Option Addr) (a b : Nat) (L : List Ck) (w : World) (hL : L.length ≤ 2097152) (rA : Rd 3 Ck.cells w A L) (rB : Rd 3 Ck.cells w B L) :
    Calls Try.prog 13 #[.slice A L.length a, .slice B L.length b] w fun e w' => e = .returned (.bool true) ∧ Below w.heap.size w w' := by
  have H1 := Lib.hid rA
  have H2 := Lib.hid rB
  have nl : ((L.length : Int) != (L.length : Int)) = false := by simp
  clear rA rB
  go_enter Try.func13, Try.ntmps13
  go_wp2
  go_loopw [5] (fun v wr => ∃ j : Nat, j ≤ L.length ∧ v = .int .i64 (j : Int) ∧ Hid (Below w.heap.size w wr)) (fun v _ => L.length - (intOf v).toNat)
  case atStart => exact ⟨0, Nat.zero_le _, rfl, Below.refl _ _⟩
  case round =>
    obtain ⟨j, hj, rfl, hB⟩ := hrel
    by_cases hlt : j < L.length
    · obtain ⟨g, o, hgo, xc⟩ := Rd.below H1.out hB.out j hlt
      obtain ⟨g', o', hgo', yc⟩ := Rd.below H2.out hB.out j hlt
      subst hgo hgo'
      generalize L[j] = x at xc yc
      have x0 : wr.cell? ⟨g, o + j * 3, none⟩ = some (.int .i64 x.a) := xc 0 _ rfl
      have x1 : wr.cell? ⟨g, o + j * 3 + 1, none⟩ = some (.int .i64 x.f) := xc 1 _ rfl
      have x2 : wr.cell? ⟨g, o + j * 3 + 2, none⟩ = some (.int .i64 x.n) := xc 2 _ rfl
      have y0 : wr.cell? ⟨g', o' + j * 3, none⟩ = some (.int .i64 x.a) := yc 0 _ rfl
      have y1 : wr.cell? ⟨g', o' + j * 3 + 1, none⟩ = some (.int .i64 x.f) := yc 1 _ rfl
      have y2 : wr.cell? ⟨g', o' + j * 3 + 2, none⟩ = some (.int .i64 x.n) := yc 2 _ rfl
      clear xc yc
      have hq : ∀ W, (binOp .neq 25 (.agg #[.int .i64 x.a, .int .i64 x.f, .int .i64 x.n]) (.agg #[.int .i64 x.a, .int .i64 x.f, .int .i64 x.n])).run Try.prog W = .ok (.bool false) W := fun W => by have := neqCheck x x W; simpa using this
      have i0 : (0 : Int) ≤ (j : Int) := by omega
      have i1 : (j : Int) < (L.length : Int) := by omega
      go_wp2_with (fail)
      go_quiet (fail)
      clear hq x0 x1 x2 y0 y1 y2
      go_wp2
      go_roundw
      case rel => exact ⟨j + 1, by omega, by go_num, Below.drewN hB.out _⟩
      case measure => (simp [intOf]; try omega)
    · have i1 : ¬ (j : Int) < (L.length : Int) := by omega
      obtain rfl : j = L.length := by omega
      go_wp2
      go_light
      go_ret
      exact ⟨rfl, hB.out⟩

set_option maxRecDepth 100000 in
set_option maxHeartbeats 8000000 in
theorem lawCheckCut (A : Option Addr) (c n : Nat) (w : World) (hn : n ≤ maxLen) (hc : n ≤ c) (hb : InB w A n) :
    Calls Try.prog 5 #[.slice A n c] w fun e w' => e = .returned (.bool true) ∧ Below w.heap.size w w' := by
  have HB := Lib.hid hb
  have Z : Hid (Below w.heap.size w w) := Below.refl _ _
  clear hb hn
  go_enter Try.func5, Try.ntmps5
  by_cases h1 : (1048576 : Int) < n
  · go_wp2
    go_light
    go_ret
    exact ⟨rfl, Z.out⟩
  go_wp2_with (fail)
  refine (drawCheckCut (by omega) hc HB.out).mono ?_
  rintro e w1 ⟨D, B, d, t, rfl, hl, oo, hz⟩
  replace Z := Lib.hid hz
  have OD := Lib.hid oo
  clear hz oo HB h1 hc
  obtain ⟨R, hR⟩ : ∃ R, cutC D t = R := ⟨_, rfl⟩
  have HR := Lib.hid hR
  have hrl : R.length ≤ 25 := by rw [← hR]; exact Nat.le_trans (cutC_len D t) hl
  clear hR
  go_wp2_with (fail)
  refine (implCheckCut _ _ D t _ (by omega) OD.out.rd).mono ?_
  rw [HR.out]
  rintro e w2 ⟨AOX, aOX, rfl, o2, hb⟩
  have OX := Lib.hid o2
  replace Z := Lib.hid (Below.and Z.out hb)
  replace OD := Lib.hid (OD.out.below hb)
  clear o2 hb
  go_wp2_with (fail)
  refine (specCheckCut _ _ D t _ (by omega) OD.out.rd).mono ?_
  rw [HR.out]
  rintro e w3 ⟨AOW, aOW, rfl, o2, hb⟩
  have OW := Lib.hid o2
  replace Z := Lib.hid (Below.and Z.out hb)
  replace OD := Lib.hid (OD.out.below hb)
  replace OX := Lib.hid (OX.out.below hb)
  clear o2 hb
  go_wp2_with (fail)
  refine (wpChecks_rd _ _ _ _ R _ (by omega) OX.out.rd OW.out.rd).mono ?_
  rintro e w4 ⟨rfl, hb⟩
  replace Z := Lib.hid (Below.and Z.out hb)
  replace OD := Lib.hid (OD.out.below hb)
  replace OX := Lib.hid (OX.out.below hb)
  replace OW := Lib.hid (OW.out.below hb)
  clear hb
  rcases hok : okC D with _ | _
  · have HOK := Lib.hid hok
    clear hok
    go_wp2_with (fail)
    refine (implCheckOk _ _ D _ (by omega) OD.out.rd).mono ?_
    rw [HOK.out]
    rintro e w5 ⟨rfl, hb⟩
    replace Z := Lib.hid (Below.and Z.out hb)
    replace OD := Lib.hid (OD.out.below hb)
    replace OX := Lib.hid (OX.out.below hb)
    replace OW := Lib.hid (OW.out.below hb)
    clear hb
    go_wp2_with (fail)
    refine (specCheckCut _ _ D t _ (by omega) OD.out.rd).mono ?_
    rw [HR.out]
    rintro e w6 ⟨AOV, aOV, rfl, o2, hb⟩
    have OV := Lib.hid o2
    replace Z := Lib.hid (Below.and Z.out hb)
    replace OD := Lib.hid (OD.out.below hb)
    replace OX := Lib.hid (OX.out.below hb)
    replace OW := Lib.hid (OW.out.below hb)
    clear o2 hb
    go_wp2_with (fail)
    refine (wpChecks_rd _ _ _ _ R _ (by omega) OX.out.rd OV.out.rd).mono ?_
    rintro e w7 ⟨rfl, hb⟩
    replace Z := Lib.hid (Below.and Z.out hb)
    replace OD := Lib.hid (OD.out.below hb)
    replace OX := Lib.hid (OX.out.below hb)
    replace OW := Lib.hid (OW.out.below hb)
    replace OV := Lib.hid (OV.out.below hb)
    clear hb
    go_wp2
    go_light
    go_ret
    exact ⟨rfl, Z.out⟩
  have HOK := Lib.hid hok
  have HK := Lib.hid (okC_iff.1 hok)
  clear hok
  go_wp2_with (fail)
  refine (implCheckOk _ _ D _ (by omega) OD.out.rd).mono ?_
  rw [HOK.out]
  rintro e w5 ⟨rfl, hb⟩
  replace Z := Lib.hid (Below.and Z.out hb)
  replace OD := Lib.hid (OD.out.below hb)
  replace OX := Lib.hid (OX.out.below hb)
  replace OW := Lib.hid (OW.out.below hb)
  clear hb
  have HLT := Lib.hid (show ∀ x ∈ R, t < x.f by rw [← HR.out]; exact cut_later)
  have HCC := Lib.hid (show cutC R t = R by rw [← HR.out]; exact cut_cut HK.out t)
  have HST := Lib.hid (show (stC D).2.2 = false ∨ (stC D).1 ≤ t ∨ stC R = stC D by rw [← HR.out]; exact cut_stable HK.out t)
  clear HR HK HOK
  go_wp2
  go_loopw [6] (fun v wr => ∃ j : Nat, j ≤ R.length ∧ v = .int .i64 (j : Int) ∧ Hid (Below w5.heap.size w5 wr)) (fun v _ => R.length - (intOf v).toNat)
  case atStart => exact ⟨0, Nat.zero_le _, rfl, Below.refl _ _⟩
  case round =>
    obtain ⟨j, hj, rfl, hB⟩ := hrel
    replace Z := Lib.hid (Below.and Z.out hB.out)
    replace OD := Lib.hid (OD.out.below hB.out)
    replace OX := Lib.hid (OX.out.below hB.out)
    replace OW := Lib.hid (OW.out.below hB.out)
    by_cases hlt : j < R.length
    · obtain ⟨g, o, hgo, yc⟩ := OX.out.rd j hlt
      subst hgo
      have hle : ¬ (R[j]).f ≤ t := by have := HLT.out _ (List.getElem_mem hlt); omega
      generalize R[j] = y at yc hle
      have y0 : wr.cell? ⟨g, o + j * 3, none⟩ = some (.int .i64 y.a) := yc 0 _ rfl
      have y1 : wr.cell? ⟨g, o + j * 3 + 1, none⟩ = some (.int .i64 y.f) := yc 1 _ rfl
      have y2 : wr.cell? ⟨g, o + j * 3 + 2, none⟩ = some (.int .i64 y.n) := yc 2 _ rfl
      clear yc
      have i0 : (0 : Int) ≤ (j : Int) := by omega
      have i1 : (j : Int) < (R.length : Int) := by omega
      go_wp2
      go_roundw
      case rel => exact ⟨j + 1, by omega, by go_num, hB.out⟩
      case measure => (simp [intOf]; try omega)
    · have i1 : ¬ (j : Int) < (R.length : Int) := by omega
      obtain rfl : j = R.length := by omega
      clear hlt hj hB HLT
      obtain ⟨⟨f1, n1, b1⟩, h1⟩ : ∃ X, stC D = X := ⟨_, rfl⟩
      obtain ⟨⟨f2, n2, b2⟩, h2⟩ : ∃ X, stC R = X := ⟨_, rfl⟩
      have H1 := Lib.hid h1
      have H2 := Lib.hid h2
      rw [h1, h2] at HST
      clear h1 h2
      go_wp2_with (fail)
      refine (implCheckStable _ _ D _ (by omega) OD.out.rd).mono ?_
      rw [H1.out]
      dsimp only [DoST]
      rintro e w6 ⟨rfl, hb⟩
      replace Z := Lib.hid (Below.and Z.out hb)
      replace OD := Lib.hid (OD.out.below hb)
      replace OX := Lib.hid (OX.out.below hb)
      replace OW := Lib.hid (OW.out.below hb)
      clear hb
      go_wp2_with (fail)
      refine (implCheckStable _ _ R _ (by omega) OX.out.rd).mono ?_
      rw [H2.out]
      dsimp only [DoST]
      rintro e w7 ⟨rfl, hb⟩
      replace Z := Lib.hid (Below.and Z.out hb)
      replace OD := Lib.hid (OD.out.below hb)
      replace OX := Lib.hid (OX.out.below hb)
      replace OW := Lib.hid (OW.out.below hb)
      clear hb
      clear H1 H2 OW OD
      rcases b1 with _ | _
      · clear HST
        go_wp2_with (fail)
        refine (implCheckCut _ _ R t _ (by omega) OX.out.rd).mono ?_
        rw [HCC.out]
        rintro e w8 ⟨AOV, aOV, rfl, o2, hb⟩
        have OV := Lib.hid o2
        replace Z := Lib.hid (Below.and Z.out hb)
        replace OX := Lib.hid (OX.out.below hb)
        clear o2 hb
        go_wp2_with (fail)
        refine (wpChecks_rd _ _ _ _ R _ (by omega) OV.out.rd OX.out.rd).mono ?_
        rintro e w9 ⟨rfl, hb⟩
        replace Z := Lib.hid (Below.and Z.out hb)
        replace OX := Lib.hid (OX.out.below hb)
        replace OV := Lib.hid (OV.out.below hb)
        clear hb
        go_wp2
        go_light
        go_ret
        exact ⟨rfl, Z.out⟩
      by_cases hf : f1 ≤ t
      · clear HST
        go_wp2_with (fail)
        refine (implCheckCut _ _ R t _ (by omega) OX.out.rd).mono ?_
        rw [HCC.out]
        rintro e w8 ⟨AOV, aOV, rfl, o2, hb⟩
        have OV := Lib.hid o2
        replace Z := Lib.hid (Below.and Z.out hb)
        replace OX := Lib.hid (OX.out.below hb)
        clear o2 hb
        go_wp2_with (fail)
        refine (wpChecks_rd _ _ _ _ R _ (by omega) OV.out.rd OX.out.rd).mono ?_
        rintro e w9 ⟨rfl, hb⟩
        replace Z := Lib.hid (Below.and Z.out hb)
        replace OX := Lib.hid (OX.out.below hb)
        replace OV := Lib.hid (OV.out.below hb)
        clear hb
        go_wp2
        go_light
        go_ret
        exact ⟨rfl, Z.out⟩
      · have e : f2 = f1 ∧ n2 = n1 ∧ b2 = true := by
          rcases HST.out with h | h | h
          · cases h
          · exact absurd h hf
          · injection h with h3 h4
            injection h4 with h5 h6
            exact ⟨h3, h5, h6⟩
        obtain ⟨rfl, rfl, rfl⟩ := e
        have ef : (f2 == f2) = true := by simp
        have en : (n2 == n2) = true := by simp
        clear HST
        go_wp2_with (fail)
        refine (implCheckCut _ _ R t _ (by omega) OX.out.rd).mono ?_
        rw [HCC.out]
        rintro e w8 ⟨AOV, aOV, rfl, o2, hb⟩
        have OV := Lib.hid o2
        replace Z := Lib.hid (Below.and Z.out hb)
        replace OX := Lib.hid (OX.out.below hb)
        clear o2 hb
        go_wp2_with (fail)
        refine (wpChecks_rd _ _ _ _ R _ (by omega) OV.out.rd OX.out.rd).mono ?_
        rintro e w9 ⟨rfl, hb⟩
        replace Z := Lib.hid (Below.and Z.out hb)
        replace OX := Lib.hid (OX.out.below hb)
        replace OV := Lib.hid (OV.out.below hb)
        clear hb
        go_wp2
        go_light
        go_ret
        exact ⟨rfl, Z.out⟩

end Go.Proofs.Ytgbnoemoangofaa
