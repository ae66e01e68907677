/- The laws of dice: what is shuffled, and shuffled back. -/
import Derived.Test.YtkhneligclhgaaaFl
namespace Go.Proofs.Ytkhneligclhgaaa
open Go.ChangeShapes Go.WideShapes Go.ChangeAt Go.RowKit
set_option linter.unusedVariables false
set_option linter.unusedSimpArgs false

theorem count_take (L : List Int) (v : Int) (i : Nat) (h : i < L.length) : ((L.take (i + 1)).count v : Int) = ((L.take i).count v : Int) + (if L.getD i 0 == v then 1 else 0) := by
  rw [List.take_succ_eq_append_getElem h, List.count_append, List.count_singleton, getD_at L i h]
  split <;> simp
theorem count_len (L : List Int) (v : Int) (i : Nat) : (L.take i).count v ≤ L.length := Nat.le_trans List.count_le_length (by rw [List.length_take]; omega)

set_option maxRecDepth 100000 in
set_option maxHeartbeats 8000000 in
theorem lawDiceBack (A : Option Addr) (c n : Nat) (w : World) (hn : n ≤ maxLen) (hc : n ≤ c) (hb : InB w A n) :
    Calls Try.prog 7 #[.slice A n c] w fun e w' => e = .returned (.bool true) ∧ Below w.heap.size w w' := by
  have HB := Lib.hid hb
  have Z : Hid (Below w.heap.size w w) := Below.refl _ _
  clear hb hn
  go_enter Try.func7, Try.ntmps7
  by_cases h1 : (1048576 : Int) < n
  · go_wp2
    go_light
    go_ret
    exact ⟨rfl, Z.out⟩
  go_wp2_with (fail)
  refine (drawDiceBack (by omega) hc HB.out).mono ?_
  rintro e w1 ⟨D, B, d, v, rfl, hD, oD, nB, hz⟩
  replace Z := Lib.hid hz
  have RD := Lib.hid oD.rdI
  obtain ⟨R, hR⟩ : ∃ R, backI D v = R := ⟨_, rfl⟩
  have hRl : R.length ≤ D.length := by rw [← hR]; exact backI_le D v
  have HI : Hid (∀ wx : World, RdI wx B D → Calls Try.prog 26 #[.slice B D.length d, .int .i64 v] wx (DoS R wx)) := fun wx h => by rw [← hR]; exact implBack _ _ D v wx (by omega) nB h
  have HS : Hid (∀ wx : World, RdI wx B D → Calls Try.prog 28 #[.slice B D.length d, .int .i64 v] wx (DoS R wx)) := fun wx h => by rw [← hR]; exact specBack _ _ D v wx (by omega) nB h
  clear hz HB h1 hc oD nB
  go_wp2_with (fail)
  refine (HI.out _ RD.out).mono ?_
  rintro e w2 ⟨AR, ARc, rfl, o2, hb⟩
  have RR := Lib.hid o2.rdI
  have NRR := Lib.hid o2.nA
  replace RD := Lib.hid (RD.out.below hb)
  replace Z := Lib.hid (Below.and Z.out hb)
  clear o2 hb
  go_wp2_with (fail)
  refine (HS.out _ RD.out).mono ?_
  rintro e w3 ⟨AS, ASc, rfl, o2, hb⟩
  have RS := Lib.hid o2.rdI
  have NRS := Lib.hid o2.nA
  replace RD := Lib.hid (RD.out.below hb)
  replace RR := Lib.hid (RR.out.below hb)
  replace Z := Lib.hid (Below.and Z.out hb)
  clear o2 hb
  go_wp2_with (fail)
  refine (wpIntsD _ _ _ _ _ _ (by omega) RR.out RS.out).mono ?_
  rintro e w4 ⟨rfl, hb⟩
  replace RD := Lib.hid (RD.out.below hb)
  replace RR := Lib.hid (RR.out.below hb)
  replace Z := Lib.hid (Below.and Z.out hb)
  clear hb
  by_cases hlen : ¬ R.length = D.length
  · have R0 : R = [] := by
      rcases hsb : shB D v with _ | _
      · rw [← hR]; exact backI_no hsb
      · exact absurd (by rw [← hR]; exact backI_len hsb) hlen
    have nl : ((R.length : Int) != (D.length : Int)) = true := by simp; omega
    have z0 : ((R.length : Int) == 0) = true := by rw [R0]; rfl
    clear R0 hR hlen
    go_wp2_with (fail)
    refine (HS.out _ RD.out).mono ?_
    rintro e w5 ⟨AS, ASc, rfl, o2, hb⟩
    have RS := Lib.hid o2.rdI
    have NRS := Lib.hid o2.nA
    replace RD := Lib.hid (RD.out.below hb)
    replace RR := Lib.hid (RR.out.below hb)
    replace Z := Lib.hid (Below.and Z.out hb)
    clear o2 hb
    go_wp2_with (fail)
    refine (wpIntsD _ _ _ _ _ _ (by omega) RR.out RS.out).mono ?_
    rintro e w6 ⟨rfl, hb⟩
    replace RD := Lib.hid (RD.out.below hb)
    replace RR := Lib.hid (RR.out.below hb)
    replace Z := Lib.hid (Below.and Z.out hb)
    clear hb
    go_wp2
    go_light
    go_ret
    exact ⟨rfl, Z.out⟩
  replace hlen := Decidable.not_not.1 hlen
  have nl : ((R.length : Int) != (D.length : Int)) = false := by simp [hlen]
  have HI2 : Hid (∀ wx : World, RdI wx AR R → Calls Try.prog 23 #[.slice AR R.length ARc, .int .i64 v] wx (DoS D wx)) := fun wx h => by
    have e : shufI R v = D := by
      rcases hsb : shB D v with _ | _
      · have R0 : R = [] := by rw [← hR]; exact backI_no hsb
        rw [R0] at hlen
        have D0 : D = [] := List.eq_nil_of_length_eq_zero hlen.symm
        rw [R0]
        rw [D0] at hsb ⊢
        exact shufI_no hsb
      · rw [← hR]; exact shuf_back hsb
    rw [← e]
    have h9 := implShuf AR ARc R v wx (by omega) NRR.out h
    exact h9
  clear hR hlen
  go_wp2_with (fail)
  refine (HI2.out _ RR.out).mono ?_
  rintro e w7 ⟨AB, ABc, rfl, o2, hb⟩
  have RB := Lib.hid o2.rdI
  have NRB := Lib.hid o2.nA
  replace RD := Lib.hid (RD.out.below hb)
  replace RR := Lib.hid (RR.out.below hb)
  replace Z := Lib.hid (Below.and Z.out hb)
  clear o2 hb
  go_wp2_with (fail)
  refine (wpIntsD _ _ _ _ _ _ (by omega) RB.out RD.out).mono ?_
  rintro e w8 ⟨rfl, hb⟩
  replace RD := Lib.hid (RD.out.below hb)
  replace Z := Lib.hid (Below.and Z.out hb)
  clear hb
  go_wp2
  go_light
  go_ret
  exact ⟨rfl, Z.out⟩

end Go.Proofs.Ytkhneligclhgaaa
