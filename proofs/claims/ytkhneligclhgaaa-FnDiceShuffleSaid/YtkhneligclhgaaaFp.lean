/- The law of dice: what is shuffled is all that there was. -/
import Derived.Test.YtkhneligclhgaaaFo
namespace Go.Proofs.Ytkhneligclhgaaa
open Go.ChangeShapes Go.WideShapes Go.ChangeAt Go.RowKit
set_option linter.unusedVariables false
set_option linter.unusedSimpArgs false

set_option maxRecDepth 100000 in
set_option maxHeartbeats 8000000 in
theorem lawDiceShuffle (A : Option Addr) (c n : Nat) (w : World) (hn : n ≤ maxLen) (hc : n ≤ c) (hb : InB w A n) :
    Calls Try.prog 6 #[.slice A n c] w fun e w' => e = .returned (.bool true) ∧ Below w.heap.size w w' := by
  have HB := Lib.hid hb
  have Z : Hid (Below w.heap.size w w) := Below.refl _ _
  clear hb hn
  go_enter Try.func6, Try.ntmps6
  by_cases h1 : (1048576 : Int) < n
  · go_wp2
    go_light
    go_ret
    exact ⟨rfl, Z.out⟩
  go_wp2_with (fail)
  refine (drawDiceShuffle (by omega) hc HB.out).mono ?_
  rintro e w1 ⟨D, B, d, v, rfl, hD, oD, nB, hz⟩
  replace Z := Lib.hid hz
  have RD := Lib.hid oD.rdI
  obtain ⟨R, hR⟩ : ∃ R, shufI D v = R := ⟨_, rfl⟩
  have hRl : R.length ≤ D.length := by rw [← hR]; exact shufI_le D v
  have HI : Hid (∀ wx : World, RdI wx B D → Calls Try.prog 23 #[.slice B D.length d, .int .i64 v] wx (DoS R wx)) := fun wx h => by rw [← hR]; exact implShuf _ _ D v wx (by omega) nB h
  have HS : Hid (∀ wx : World, RdI wx B D → Calls Try.prog 25 #[.slice B D.length d, .int .i64 v] wx (DoS R wx)) := fun wx h => by rw [← hR]; exact specShuf _ _ D v wx (by omega) nB h
  clear hz HB h1 hc oD nB
  go_wp2_with (fail)
  refine (HI.out _ RD.out).mono ?_
  rintro e w2 ⟨AR, ARc, rfl, o2, hb⟩
  have RR := Lib.hid o2.rdI
  have NRR := Lib.hid o2.nA
  replace RD := Lib.hid (RD.out.below hb)
  replace Z := Lib.hid (Below.and Z.out hb)
  clear o2 hb
  go_wp2_with (fail)
  refine (HS.out _ RD.out).mono ?_
  rintro e w3 ⟨AS, ASc, rfl, o2, hb⟩
  have RS := Lib.hid o2.rdI
  have NRS := Lib.hid o2.nA
  replace RD := Lib.hid (RD.out.below hb)
  replace RR := Lib.hid (RR.out.below hb)
  replace Z := Lib.hid (Below.and Z.out hb)
  clear o2 hb
  go_wp2_with (fail)
  refine (wpIntsD _ _ _ _ _ _ (by omega) RR.out RS.out).mono ?_
  rintro e w4 ⟨rfl, hb⟩
  replace RD := Lib.hid (RD.out.below hb)
  replace RR := Lib.hid (RR.out.below hb)
  replace Z := Lib.hid (Below.and Z.out hb)
  clear hb
  by_cases hlen : ¬ R.length = D.length
  · have R0 : R = [] := by
      rcases hsb : shB D v with _ | _
      · rw [← hR]; exact shufI_no hsb
      · exact absurd (by rw [← hR]; exact shufI_len hsb) hlen
    have nl : ((R.length : Int) != (D.length : Int)) = true := by simp; omega
    have z0 : ((R.length : Int) == 0) = true := by rw [R0]; rfl
    clear R0 hR hlen
    go_wp2_with (fail)
    refine (HS.out _ RD.out).mono ?_
    rintro e w5 ⟨AS, ASc, rfl, o2, hb⟩
    have RS := Lib.hid o2.rdI
    have NRS := Lib.hid o2.nA
    replace RD := Lib.hid (RD.out.below hb)
    replace RR := Lib.hid (RR.out.below hb)
    replace Z := Lib.hid (Below.and Z.out hb)
    clear o2 hb
    go_wp2_with (fail)
    refine (wpIntsD _ _ _ _ _ _ (by omega) RR.out RS.out).mono ?_
    rintro e w6 ⟨rfl, hb⟩
    replace RD := Lib.hid (RD.out.below hb)
    replace RR := Lib.hid (RR.out.below hb)
    replace Z := Lib.hid (Below.and Z.out hb)
    clear hb
    go_wp2
    go_light
    go_ret
    exact ⟨rfl, Z.out⟩
  replace hlen := Decidable.not_not.1 hlen
  have nl : ((R.length : Int) != (D.length : Int)) = false := by simp [hlen]
  have HI2 : Hid (∀ wx : World, RdI wx AR R → Calls Try.prog 26 #[.slice AR R.length ARc, .int .i64 v] wx (DoS D wx)) := fun wx h => by
    have e : backI R v = D := by
      rcases hsb : shB D v with _ | _
      · have R0 : R = [] := by rw [← hR]; exact shufI_no hsb
        rw [R0] at hlen
        have D0 : D = [] := List.eq_nil_of_length_eq_zero hlen.symm
        rw [R0]
        rw [D0] at hsb ⊢
        exact backI_no hsb
      · rw [← hR]; exact back_shuf hsb
    rw [← e]
    have h9 := implBack AR ARc R v wx (by omega) NRR.out h
    exact h9
  have HCT := Lib.hid (show ∀ u : Int, R.count u = D.count u from fun u => by
    rcases hsb : shB D v with _ | _
    · have R0 : R = [] := by rw [← hR]; exact shufI_no hsb
      rw [R0] at hlen
      have D0 : D = [] := List.eq_nil_of_length_eq_zero hlen.symm
      rw [R0, D0]
    · rw [← hR]; exact shuf_count hsb u)
  have HLEN := Lib.hid hlen
  clear hR hlen
  go_wp2
  go_loopw [6] (fun p wr => ∃ k : Nat, k ≤ 9 ∧ p = .int .i64 (k : Int) ∧ Hid (RdI wr B D) ∧ Hid (RdI wr AR R) ∧ Hid (Below w.heap.size w wr)) (fun p _ => 9 - (intOf p).toNat)
  case atStart => exact ⟨0, by omega, rfl, RD.out, RR.out, Z.out⟩
  case round =>
    clear RD RR Z
    obtain ⟨k, hk, rfl, RD, RR, Z⟩ := hrel
    by_cases h9 : k < 9
    · have i9 : (k : Int) < 9 := by omega
      go_wp2
      go_loopw [7, 8] (fun p q wx => ∃ i : Nat, i ≤ R.length ∧ q = .int .i64 (i : Int) ∧ p = .int .i64 (((R.take i).count (k : Int) : Int) - ((D.take i).count (k : Int) : Int)) ∧ Hid (RdI wx B D) ∧ Hid (RdI wx AR R) ∧ Hid (Below w.heap.size w wx)) (fun _ q _ => R.length - (intOf q).toNat)
      case atStart => exact ⟨0, Nat.zero_le _, rfl, by simp, RD.out, RR.out, Z.out⟩
      case round =>
        clear RD RR Z
        obtain ⟨i, hi, rfl, rfl, RD, RR, Z⟩ := hrel
        have b1 := count_len R (k : Int) i
        have b2 := count_len D (k : Int) i
        by_cases hlt : i < R.length
        · have hltD : i < D.length := by have := HLEN.out; omega
          obtain ⟨g, hg, ca⟩ := RR.out i hlt
          obtain ⟨g', hg', cb⟩ := RD.out i hltD
          subst hg hg'
          have S1 := count_take R (k : Int) i hlt
          have S2 := count_take D (k : Int) i hltD
          rw [getD_at R i hlt] at ca
          rw [getD_at D i hltD] at cb
          obtain ⟨z, hz⟩ : ∃ z, ((R.take i).count (k : Int) : Int) - ((D.take i).count (k : Int) : Int) = z := ⟨_, rfl⟩
          have hz1 : -30 ≤ z ∧ z ≤ 30 := by omega
          rw [hz]
          generalize R.getD i 0 = x at ca S1
          generalize D.getD i 0 = y at cb S2
          have i0 : (0 : Int) ≤ (i : Int) := by omega
          have i1 : (i : Int) < (R.length : Int) := by omega
          have i2 : (i : Int) < (D.length : Int) := by omega
          have ew1 : IntKind.i64.wrap (z + 1) = z + 1 := IntWalk.i64_in _ (by omega)
          have ew2 : IntKind.i64.wrap (z - 1) = z - 1 := IntWalk.i64_in _ (by omega)
          have ew3 : IntKind.i64.wrap (z + 1 - 1) = z := by rw [IntWalk.i64_in _ (by omega)]; omega
          have ew4 : IntKind.i64.wrap z = z := IntWalk.i64_in _ (by omega)
          rcases hx : (x == (k : Int)) with _ | _
          all_goals rcases hy : (y == (k : Int)) with _ | _
          all_goals rw [hx] at S1
          all_goals rw [hy] at S2
          all_goals simp only [Bool.false_eq_true, if_false, if_true] at S1 S2
          all_goals have HZ := Lib.hid (show ((R.take (i + 1)).count (k : Int) : Int) - ((D.take (i + 1)).count (k : Int) : Int) = z + ((((R.take (i + 1)).count (k : Int) : Int) - ((D.take (i + 1)).count (k : Int) : Int)) - z) by omega)
          · have HW := Lib.hid (show ((R.take (i + 1)).count (k : Int) : Int) - ((D.take (i + 1)).count (k : Int) : Int) = z by omega)
            clear S1 S2 hz HZ
            go_wp2
            go_roundw
            case rel => exact ⟨i + 1, by omega, by go_num, by rw [HW.out], RD.out, RR.out, Z.out⟩
            case measure => (simp [intOf]; try omega)
          · have HW := Lib.hid (show ((R.take (i + 1)).count (k : Int) : Int) - ((D.take (i + 1)).count (k : Int) : Int) = z - 1 by omega)
            clear S1 S2 hz HZ
            go_wp2
            go_roundw
            case rel => exact ⟨i + 1, by omega, by go_num, by rw [HW.out], RD.out, RR.out, Z.out⟩
            case measure => (simp [intOf]; try omega)
          · have HW := Lib.hid (show ((R.take (i + 1)).count (k : Int) : Int) - ((D.take (i + 1)).count (k : Int) : Int) = z + 1 by omega)
            clear S1 S2 hz HZ
            go_wp2
            go_roundw
            case rel => exact ⟨i + 1, by omega, by go_num, by rw [HW.out], RD.out, RR.out, Z.out⟩
            case measure => (simp [intOf]; try omega)
          · have HW := Lib.hid (show ((R.take (i + 1)).count (k : Int) : Int) - ((D.take (i + 1)).count (k : Int) : Int) = z by omega)
            clear S1 S2 hz HZ
            go_wp2
            go_roundw
            case rel => exact ⟨i + 1, by omega, by go_num, by rw [HW.out], RD.out, RR.out, Z.out⟩
            case measure => (simp [intOf]; try omega)
        · have i1 : ¬ (i : Int) < (R.length : Int) := by omega
          have HZ : ((R.take i).count (k : Int) : Int) - ((D.take i).count (k : Int) : Int) = 0 := by
            have hl9 := HLEN.out
            rw [List.take_of_length_le (by omega), List.take_of_length_le (by omega), HCT.out]
            omega
          rw [HZ]
          clear HZ b1 b2
          go_wp2
          go_roundw
          case rel => exact ⟨k + 1, by omega, by go_num, RD.out, RR.out, Z.out⟩
          case measure => (simp [intOf]; try omega)
    · have i9 : ¬ (k : Int) < 9 := by omega
      go_wp2_with (fail)
      refine (HI2.out _ RR.out).mono ?_
      rintro e w7 ⟨AB, ABc, rfl, o2, hb⟩
      have RB := Lib.hid o2.rdI
      have NRB := Lib.hid o2.nA
      replace RD := Lib.hid (RD.out.below hb)
      replace RR := Lib.hid (RR.out.below hb)
      replace Z := Lib.hid (Below.and Z.out hb)
      clear o2 hb
      go_wp2_with (fail)
      refine (wpIntsD _ _ _ _ _ _ (by omega) RB.out RD.out).mono ?_
      rintro e w8 ⟨rfl, hb⟩
      replace RD := Lib.hid (RD.out.below hb)
      replace Z := Lib.hid (Below.and Z.out hb)
      clear hb
      go_wp2
      go_light
      go_ret
      exact ⟨rfl, Z.out⟩

end Go.Proofs.Ytkhneligclhgaaa
