/- One checksum more: the law. -/
import Derived.Test.YtgbnoemoangofaaYo
namespace Go.Proofs.Ytgbnoemoangofaa
open Go.ChangeShapes Go.WideShapes Go.ChangeAt Go.RowKit
set_option linter.unusedVariables false
set_option linter.unusedSimpArgs false

set_option maxRecDepth 100000 in
set_option maxHeartbeats 8000000 in
theorem lawCheckAdd (A : Option Addr) (c n : Nat) (w : World) (hn : n ≤ maxLen) (hc : n ≤ c) (hb : InB w A n) :
    Calls Try.prog 3 #[.slice A n c] w fun e w' => e = .returned (.bool true) ∧ Below w.heap.size w w' := by
  have HB := Lib.hid hb
  have Z : Hid (Below w.heap.size w w) := Below.refl _ _
  clear hb hn
  go_enter Try.func3, Try.ntmps3
  by_cases h1 : (1048576 : Int) < n
  · go_wp2
    go_light
    go_ret
    exact ⟨rfl, Z.out⟩
  go_wp2_with (fail)
  refine (drawCheckAdd (by omega) hc HB.out).mono ?_
  rintro e w1 ⟨D, B, d, x, rfl, hl, oo, hz⟩
  replace Z := Lib.hid hz
  have OD := Lib.hid oo
  clear hz oo HB h1 hc
  have hba : Below w1.heap.size w1 (w1.alloc (.cells (ckCs x) 25)) := (Below.refl _ _).alloc (Nat.le_refl _) _
  have KX : Hid (Bkk (w1.alloc (.cells (ckCs x) 25)) w1.heap.size 25 (ckCs x)) := Bkk.new _
  replace OD := Lib.hid (OD.out.below hba)
  replace Z := Lib.hid (Below.and Z.out hba)
  clear hba
  go_upto_region 4 with (fail)
  obtain ⟨tb, htb⟩ : ∃ X, X = w1.heap.size := ⟨_, rfl⟩
  obtain ⟨w2, hw2⟩ : ∃ X, X = w1.alloc (.cells (ckCs x) 25) := ⟨_, rfl⟩
  rw [← hw2] at KX OD Z ⊢
  rw [← htb] at KX ⊢
  clear hw2 htb
  obtain ⟨⟨R, u⟩, hY⟩ : ∃ Y, addC D x = Y := ⟨_, rfl⟩
  have HY := Lib.hid hY
  have hrl : R.length ≤ 26 := by have := addC_len D x; rw [hY] at this; exact Nat.le_trans this (by omega)
  clear hY
  have t0 : w2.cell? ⟨tb, 0, none⟩ = some (.int .i64 x.a) := KX.out.cell 0
  have t1 : w2.cell? ⟨tb, 1, none⟩ = some (.int .i64 x.f) := KX.out.cell 1
  have t2 : w2.cell? ⟨tb, 2, none⟩ = some (.int .i64 x.n) := KX.out.cell 2
  have lt := KX.out.lt
  go_wp2_with (fail)
  refine (implCheckAdd B d D x _ (by omega) OD.out.rdT).mono ?_
  rw [HY.out]
  rintro e w3 ⟨AOX, aOX, rfl, o2, hb⟩
  have OX := Lib.hid o2
  replace Z := Lib.hid (Below.and Z.out hb)
  replace OD := Lib.hid (OD.out.below hb)
  replace KX := Lib.hid (KX.out.below hb)
  clear o2 hb
  clear t0 t1 t2 lt
  have t0 : w3.cell? ⟨tb, 0, none⟩ = some (.int .i64 x.a) := KX.out.cell 0
  have t1 : w3.cell? ⟨tb, 1, none⟩ = some (.int .i64 x.f) := KX.out.cell 1
  have t2 : w3.cell? ⟨tb, 2, none⟩ = some (.int .i64 x.n) := KX.out.cell 2
  have lt := KX.out.lt
  go_wp2_with (fail)
  refine (specCheckAdd B d D x _ (by omega) OD.out.rdT).mono ?_
  rw [HY.out]
  rintro e w4 ⟨AOW, aOW, rfl, o2, hb⟩
  have OW := Lib.hid o2
  replace Z := Lib.hid (Below.and Z.out hb)
  replace OD := Lib.hid (OD.out.below hb)
  replace KX := Lib.hid (KX.out.below hb)
  replace OX := Lib.hid (OX.out.below hb)
  clear o2 hb
  clear t0 t1 t2 lt
  have nu : (u != u) = false := by simp
  have eu : (u == u) = true := by simp
  obtain ⟨b, hb⟩ : ∃ b, okC D = b := ⟨_, rfl⟩
  have HOK := Lib.hid hb
  have nb : (b != b) = false := by simp
  have eb : (b == b) = true := by simp
  clear hb
  dsimp only
  go_wp2_with (fail)
  refine (wpChecks_rd _ _ _ _ R _ (by omega) OX.out.rd OW.out.rd).mono ?_
  rintro e w5 ⟨rfl, hb⟩
  replace Z := Lib.hid (Below.and Z.out hb)
  replace OD := Lib.hid (OD.out.below hb)
  replace KX := Lib.hid (KX.out.below hb)
  replace OX := Lib.hid (OX.out.below hb)
  replace OW := Lib.hid (OW.out.below hb)
  clear hb
  go_wp2_with (fail)
  refine (implCheckOk _ _ D _ (by omega) OD.out.rd).mono ?_
  rw [HOK.out]
  rintro e w6 ⟨rfl, hb⟩
  replace Z := Lib.hid (Below.and Z.out hb)
  replace OD := Lib.hid (OD.out.below hb)
  replace KX := Lib.hid (KX.out.below hb)
  replace OX := Lib.hid (OX.out.below hb)
  replace OW := Lib.hid (OW.out.below hb)
  clear hb
  go_wp2_with (fail)
  refine (specCheckOk _ _ D _ (by omega) OD.out.rd).mono ?_
  rw [HOK.out]
  rintro e w7 ⟨rfl, hb⟩
  replace Z := Lib.hid (Below.and Z.out hb)
  replace OD := Lib.hid (OD.out.below hb)
  replace KX := Lib.hid (KX.out.below hb)
  replace OX := Lib.hid (OX.out.below hb)
  replace OW := Lib.hid (OW.out.below hb)
  clear hb
  rcases u with _ | _
  · go_wp2_with (fail)
    refine (wpChecks_rd _ _ _ _ R _ (by omega) OX.out.rd OW.out.rd).mono ?_
    rintro e w8 ⟨rfl, hb⟩
    replace Z := Lib.hid (Below.and Z.out hb)
    replace OD := Lib.hid (OD.out.below hb)
    replace KX := Lib.hid (KX.out.below hb)
    replace OX := Lib.hid (OX.out.below hb)
    replace OW := Lib.hid (OW.out.below hb)
    clear hb
    go_wp2_with (fail)
    refine (implCheckOk _ _ D _ (by omega) OD.out.rd).mono ?_
    rw [HOK.out]
    rintro e w9 ⟨rfl, hb⟩
    replace Z := Lib.hid (Below.and Z.out hb)
    replace OD := Lib.hid (OD.out.below hb)
    replace KX := Lib.hid (KX.out.below hb)
    replace OX := Lib.hid (OX.out.below hb)
    replace OW := Lib.hid (OW.out.below hb)
    clear hb
    go_wp2_with (fail)
    refine (specCheckOk _ _ D _ (by omega) OD.out.rd).mono ?_
    rw [HOK.out]
    rintro e wA ⟨rfl, hb⟩
    replace Z := Lib.hid (Below.and Z.out hb)
    replace OD := Lib.hid (OD.out.below hb)
    replace KX := Lib.hid (KX.out.below hb)
    replace OX := Lib.hid (OX.out.below hb)
    replace OW := Lib.hid (OW.out.below hb)
    clear hb
    go_wp2_with (fail)
    refine (implCheckOk _ _ D _ (by omega) OD.out.rd).mono ?_
    rw [HOK.out]
    rintro e wB ⟨rfl, hb⟩
    replace Z := Lib.hid (Below.and Z.out hb)
    replace OD := Lib.hid (OD.out.below hb)
    replace KX := Lib.hid (KX.out.below hb)
    replace OX := Lib.hid (OX.out.below hb)
    replace OW := Lib.hid (OW.out.below hb)
    clear hb
    rcases b with _ | _
    · skip
      go_wp2
      go_light
      go_ret
      exact ⟨rfl, Z.out⟩
    · have hRL : R = D := by
        have h := HY.out
        unfold addC at h
        rw [if_pos HOK.out] at h
        split at h
        · cases h
        · injection h with h _; exact h.symm
      subst hRL
      go_wp2_with (fail)
      refine (wpChecks_rd _ _ _ _ R _ (by omega) OX.out.rd OD.out.rd).mono ?_
      rintro e wC ⟨rfl, hb⟩
      replace Z := Lib.hid (Below.and Z.out hb)
      replace OD := Lib.hid (OD.out.below hb)
      replace KX := Lib.hid (KX.out.below hb)
      replace OX := Lib.hid (OX.out.below hb)
      replace OW := Lib.hid (OW.out.below hb)
      clear hb
      go_wp2
      go_light
      go_ret
      exact ⟨rfl, Z.out⟩
  · obtain ⟨hk1, hk2, hR⟩ : okC D = true ∧ okC (D ++ [x]) = true ∧ R = D ++ [x] := by
      have h := HY.out
      unfold addC at h
      split at h
      · rename_i h1
        split at h
        · rename_i h2
          injection h with h _
          exact ⟨h1, h2, h.symm⟩
        · injection h with _ h; cases h
      · injection h with _ h; cases h
    have HAG := Lib.hid (show addC R x = (R, false) by rw [hR]; exact add_again hk2)
    have HOR := Lib.hid (show okC R = true by rw [hR]; exact hk2)
    have HST := Lib.hid (show (stC D).2.2 = false ∨ ((stC R).2.2 = true ∧ (stC D).1 ≤ (stC R).1 ∧ ((stC D).1 < (stC R).1 ∨ (stC R).2.1 = (stC D).2.1)) by rw [hR]; exact add_stable (okC_iff.1 hk1) (okC_iff.1 hk2))
    clear hk1 hk2 hR HY HOK nu eu nb eb
    obtain ⟨⟨f1, n1, b1⟩, h1⟩ : ∃ X, stC D = X := ⟨_, rfl⟩
    obtain ⟨⟨f2, n2, b2⟩, h2⟩ : ∃ X, stC R = X := ⟨_, rfl⟩
    have H1 := Lib.hid h1
    have H2 := Lib.hid h2
    rw [h1, h2] at HST
    clear h1 h2
    have t0 : w7.cell? ⟨tb, 0, none⟩ = some (.int .i64 x.a) := KX.out.cell 0
    have t1 : w7.cell? ⟨tb, 1, none⟩ = some (.int .i64 x.f) := KX.out.cell 1
    have t2 : w7.cell? ⟨tb, 2, none⟩ = some (.int .i64 x.n) := KX.out.cell 2
    have lt := KX.out.lt
    go_wp2_with (fail)
    refine (implCheckAdd _ _ R x _ (by omega) OX.out.rdT).mono ?_
    rw [HAG.out]
    rintro e w8 ⟨AOV, aOV, rfl, o2, hb⟩
    have OV := Lib.hid o2
    replace Z := Lib.hid (Below.and Z.out hb)
    replace OD := Lib.hid (OD.out.below hb)
    replace KX := Lib.hid (KX.out.below hb)
    replace OX := Lib.hid (OX.out.below hb)
    replace OW := Lib.hid (OW.out.below hb)
    clear o2 hb
    clear t0 t1 t2 lt
    go_wp2_with (fail)
    refine (implCheckStable _ _ D _ (by omega) OD.out.rd).mono ?_
    rw [H1.out]
    dsimp only [DoST]
    rintro e w9 ⟨rfl, hb⟩
    replace Z := Lib.hid (Below.and Z.out hb)
    replace OD := Lib.hid (OD.out.below hb)
    replace KX := Lib.hid (KX.out.below hb)
    replace OX := Lib.hid (OX.out.below hb)
    replace OW := Lib.hid (OW.out.below hb)
    clear hb
    go_wp2_with (fail)
    refine (implCheckStable _ _ R _ (by omega) OX.out.rd).mono ?_
    rw [H2.out]
    dsimp only [DoST]
    rintro e wA ⟨rfl, hb⟩
    replace Z := Lib.hid (Below.and Z.out hb)
    replace OD := Lib.hid (OD.out.below hb)
    replace KX := Lib.hid (KX.out.below hb)
    replace OX := Lib.hid (OX.out.below hb)
    replace OW := Lib.hid (OW.out.below hb)
    clear hb
    rcases b1 with _ | _
    · clear HST
      go_wp2_with (fail)
      refine (implCheckOk _ _ R _ (by omega) OX.out.rd).mono ?_
      rw [HOR.out]
      rintro e wB ⟨rfl, hb⟩
      replace Z := Lib.hid (Below.and Z.out hb)
      replace OD := Lib.hid (OD.out.below hb)
      replace KX := Lib.hid (KX.out.below hb)
      replace OX := Lib.hid (OX.out.below hb)
      replace OW := Lib.hid (OW.out.below hb)
      clear hb
      go_wp2
      go_light
      go_ret
      exact ⟨rfl, Z.out⟩
    · obtain ⟨rfl, hle, hor⟩ : b2 = true ∧ f1 ≤ f2 ∧ (f1 < f2 ∨ n2 = n1) := by
        rcases HST.out with h | h
        · cases h
        · exact h
      clear HST
      by_cases hlt : f1 < f2
      · clear hor
        go_wp2_with (fail)
        refine (implCheckOk _ _ R _ (by omega) OX.out.rd).mono ?_
        rw [HOR.out]
        rintro e wB ⟨rfl, hb⟩
        replace Z := Lib.hid (Below.and Z.out hb)
        replace OD := Lib.hid (OD.out.below hb)
        replace KX := Lib.hid (KX.out.below hb)
        replace OX := Lib.hid (OX.out.below hb)
        replace OW := Lib.hid (OW.out.below hb)
        clear hb
        go_wp2
        go_light
        go_ret
        exact ⟨rfl, Z.out⟩
      · have hn : n2 = n1 := by
          rcases hor with h | h
          · exact absurd h hlt
          · exact h
        subst hn
        have en : (n2 == n2) = true := by simp
        clear hor
        go_wp2_with (fail)
        refine (implCheckOk _ _ R _ (by omega) OX.out.rd).mono ?_
        rw [HOR.out]
        rintro e wB ⟨rfl, hb⟩
        replace Z := Lib.hid (Below.and Z.out hb)
        replace OD := Lib.hid (OD.out.below hb)
        replace KX := Lib.hid (KX.out.below hb)
        replace OX := Lib.hid (OX.out.below hb)
        replace OW := Lib.hid (OW.out.below hb)
        clear hb
        go_wp2
        go_light
        go_ret
        exact ⟨rfl, Z.out⟩

end Go.Proofs.Ytgbnoemoangofaa
