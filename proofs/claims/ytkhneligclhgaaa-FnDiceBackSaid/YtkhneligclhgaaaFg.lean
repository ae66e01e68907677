/- A list is shuffled back, the program's way. -/
import Derived.Test.YtkhneligclhgaaaFf
namespace Go.Proofs.Ytkhneligclhgaaa
open Go.ChangeShapes Go.WideShapes Go.ChangeAt Go.RowKit
set_option linter.unusedVariables false
set_option linter.unusedSimpArgs false

set_option maxRecDepth 100000 in
set_option maxHeartbeats 2000000 in
theorem implBackNo (A : Option Addr) (a : Nat) (L : List Int) (s : Int) (w : World) (hl : L.length ≤ 1048576) (h : shB L s = false) :
    Calls Try.prog 26 #[.slice A L.length a, .int .i64 s] w (DoS [] w) := by
  go_enter Try.func26, Try.ntmps26
  go_wp2_with (go_at_call 40; refine (canShuffle A a L s _ (by omega)).mono ?_; rintro e w' ⟨rfl, rfl⟩; rw [h])
  go_ret
  exact ⟨none, 0, rfl, OwD.nil _ _, Below.refl _ _⟩

theorem implShufUpto (A : Option Addr) (a m n : Nat) (S : List Int) (w : World) (hA : A = none → a = 0) (hr : RdI w A (upto m)) (h : shB (upto m) (n : Int) = true) (hS : shufI (upto m) (n : Int) = S) :
    Calls Try.prog 23 #[.slice A m a, .int .i64 (n : Int)] w fun e w' => ∃ A' a', e = .returned (.slice A' m a') ∧ OwD w' w.heap.size A' a' S ∧ Below w.heap.size w w' := by
  have h1 := implShufYes A a (upto m) n w hA hr h
  have hl : S.length = m := by rw [← hS, shufI_len h, upto_len]
  rw [upto_len, hS] at h1
  unfold DoS at h1
  rw [hl] at h1
  exact h1

set_option maxRecDepth 100000 in
set_option maxHeartbeats 4000000 in
theorem implBackYes (A : Option Addr) (a : Nat) (L : List Int) (n : Nat) (w : World) (hA : A = none → a = 0) (hr : RdI w A L) (h : shB L (n : Int) = true) :
    Calls Try.prog 26 #[.slice A L.length a, .int .i64 (n : Int)] w (DoS (backI L (n : Int)) w) := by
  obtain ⟨n', hn', hn, h20⟩ := shB_nat h
  obtain rfl : n = n' := by omega
  have HH := Lib.hid h
  obtain ⟨X, hX⟩ : ∃ X, X = backI L (n : Int) := ⟨_, rfl⟩
  have HX := Lib.hid hX
  have HXL := Lib.hid (show X.length = L.length by rw [hX]; exact backI_len h)
  have hU : shB (upto L.length) (n : Int) = true := by rw [shB_len (upto_len _)]; exact h
  obtain ⟨S, hS⟩ : ∃ S, shufI (upto L.length) (n : Int) = S := ⟨_, rfl⟩
  have HS := Lib.hid hS
  have HU := Lib.hid hU
  have HF := Lib.hid (show ∀ j, j < L.length → ∃ k : Nat, S.getD j 0 = (k : Int) ∧ k < L.length ∧ L.getD j 0 = X.getD k 0 from fun j hj => by have := from_place h X hX j hj; rwa [hS] at this)
  have HM := Lib.hid (show ∀ k, k < L.length → ∃ j, j < L.length ∧ S.getD j 0 = (k : Int) from fun k hk => by have := place_mem h k hk; rwa [hS] at this)
  have HSL := Lib.hid (show S.length = L.length by rw [← hS, shufI_len hU, upto_len])
  have HR := Lib.hid hr
  obtain ⟨I, hi, hz0, hz1, hz2⟩ := infoParts
  have I1 := Lib.hid hi
  have I2 := Lib.hid hz0
  have I3 := Lib.hid hz1
  have I4 := Lib.hid hz2
  clear hi hz0 hz1 hz2
  clear hr hA hn' h hX hS hU
  go_enter Try.func26, Try.ntmps26
  go_wp2_with (fail)
  refine (canShuffle A a L _ _ (by omega)).mono ?_
  rintro e w' ⟨rfl, rfl⟩
  rw [HH.out]
  go_wp2_with (at_make; refine wpList_make_full _ rfl _ _ 30 rfl w.heap.size 3 I (.int .i64 0) 1 Try.underlying30 I1.out I2.out I3.out .i64 .i64 _ _ L.length rfl rfl rfl rfl (by rw [I4.out]; omega) (by unfold maxLen; omega) (Nat.le_refl _) ?_)
  intro w1 ho hg
  rw [madeZ] at ho
  have hb : Below w.heap.size w w1 := (Below.refl _ _).grown hg (Nat.le_refl _) (fun q hq => by cases hq)
  have HO := Lib.hid (show OwD w1 w.heap.size (some ⟨w.heap.size, 0, none⟩) L.length (List.replicate L.length 0) by show World.ownsRow _ _ _ _ _ _ _; rw [List.length_replicate]; exact ho)
  have hlt1 : w.heap.size < w1.heap.size := (HO.out.ge _ rfl).2
  have Z := Lib.hid hb
  clear ho hg hb
  obtain ⟨g, hgg⟩ : ∃ g, w.heap.size = g := ⟨_, rfl⟩
  have HO := Lib.hid (show OwD w1 w.heap.size (some ⟨g, 0, none⟩) L.length (List.replicate L.length 0) by have := HO.out; rwa [hgg] at this ⊢)
  have HGE := Lib.hid (show w.heap.size ≤ g by omega)
  have HGL := Lib.hid (show g < w1.heap.size by omega)
  rw [hgg]
  clear hgg hlt1
  go_wp2
  go_loopw [19] (fun p wr => ∃ (j : Nat) (D : List Int), j ≤ L.length ∧ p = .int .i64 (j : Int) ∧ Hid (D.length = L.length) ∧ Hid (∀ i, i < j → D.getD i 0 = (i : Int)) ∧ Hid (OwD wr w.heap.size (some ⟨g, 0, none⟩) L.length D) ∧ Hid (Below w.heap.size w wr)) (fun p _ => L.length - (intOf p).toNat)
  case atStart => exact ⟨0, _, Nat.zero_le _, rfl, by simp [Hid], by simp [Hid], HO.out, Z.out⟩
  case round =>
    clear HO Z
    obtain ⟨j, D, hj, rfl, HD, HA, HO, HZ⟩ := hrel
    by_cases hlt : j < L.length
    · have c0 := HO.out.cellG j (by have := HD.out; omega)
      have f0 := World.ownsRow.frozenAt (show wr.ownsRow _ _ _ _ _ _ from HO.out) j
      have hs := HO.out.put j (j : Int)
      have H1 := Lib.hid hs.1
      have H2 := Lib.hid (HZ.out.grown hs.2 HZ.out.size (fun q hq => by injection hq with hq; rw [← hq]; exact HGE.out))
      have H3 := Lib.hid (show (D.set j (j : Int)).length = L.length by rw [List.length_set]; exact HD.out)
      have H4 := Lib.hid (show ∀ i, i < j + 1 → (D.set j (j : Int)).getD i 0 = (i : Int) by
        intro i hi
        rw [getD_set _ _ _ _ (by have := HD.out; omega)]
        by_cases e : j = i
        · subst e; rw [if_pos rfl]
        · rw [if_neg e]; exact HA.out i (by omega))
      generalize D.getD j 0 = u at c0
      have i0 : (0 : Int) ≤ (j : Int) := by omega
      have i1 : (j : Int) < (L.length : Int) := by omega
      clear hs
      go_wp2
      go_roundw
      case rel => exact ⟨j + 1, _, by omega, by go_num, H3.out, H4.out, H1.out, H2.out⟩
      case measure => (simp [intOf]; try omega)
    · have i1 : ¬ ((j : Int) < (L.length : Int)) := by omega
      have HDU := Lib.hid (show D = upto L.length from ext_getD (by rw [upto_len]; exact HD.out) (fun i hi => by
        have hi : i < L.length := by rw [← HD.out]; exact hi
        rw [HA.out i (by omega), upto_at _ _ hi]))
      have HRU := Lib.hid (show RdI wr (some ⟨g, 0, none⟩) (upto L.length) by rw [← HDU.out]; exact HO.out.rdI)
      clear HD HA HDU HO hj
      go_wp2_with (at_make; refine wpList_make_full _ rfl _ _ 30 rfl wr.heap.size 3 I (.int .i64 0) 1 Try.underlying30 I1.out I2.out I3.out .i64 .i64 _ _ L.length rfl rfl rfl rfl (by rw [I4.out]; omega) (by unfold maxLen; omega) (Nat.le_refl _) ?_)
      intro w2 ho hg
      rw [madeZ] at ho
      have hb : Below wr.heap.size wr w2 := (Below.refl _ _).grown hg (Nat.le_refl _) (fun q hq => by cases hq)
      have HB := Lib.hid (show OwD w2 wr.heap.size (some ⟨wr.heap.size, 0, none⟩) L.length (List.replicate L.length 0) by show World.ownsRow _ _ _ _ _ _ _; rw [List.length_replicate]; exact ho)
      have Z := Lib.hid (Below.and HZ.out hb)
      have HRU := Lib.hid (HRU.out.below hb)
      have HGW := Lib.hid (show w.heap.size ≤ wr.heap.size from HZ.out.size)
      have hlt2 : wr.heap.size < w2.heap.size := (HB.out.ge _ rfl).2
      clear ho hg hb HZ
      obtain ⟨q, hqq⟩ : ∃ q, wr.heap.size = q := ⟨_, rfl⟩
      have HB := Lib.hid (show OwD w2 w.heap.size (some ⟨q, 0, none⟩) L.length (List.replicate L.length 0) by have := HB.out.base HGW.out; rwa [hqq] at this)
      have HQ := Lib.hid (show w.heap.size ≤ q by have := HGW.out; omega)
      have HQL := Lib.hid (show q < w2.heap.size by omega)
      rw [hqq]
      clear hqq hlt2
      go_wp2_with (fail)
      refine (implShufUpto _ _ L.length n S _ (fun e => by cases e) HRU.out HU.out HS.out).mono ?_
      rintro e w3 ⟨AS, aS, rfl, o1, hb⟩
      have HSO := Lib.hid o1
      replace HB := Lib.hid (HB.out.below hb)
      replace Z := Lib.hid (Below.and Z.out hb)
      clear o1 hb HRU
      go_wp2
      go_loopw [34] (fun p wx => ∃ (i : Nat) (B : List Int), i ≤ L.length ∧ p = .int .i64 (i : Int) ∧ Hid (B.length = L.length) ∧ Hid (∀ k j' : Nat, k < L.length → j' < i → S.getD j' 0 = (k : Int) → B.getD k 0 = X.getD k 0) ∧ Hid (OwD wx w.heap.size (some ⟨q, 0, none⟩) L.length B) ∧ Hid (OwD wx w2.heap.size AS aS S) ∧ Hid (Below w.heap.size w wx)) (fun p _ => L.length - (intOf p).toNat)
      case atStart => exact ⟨0, _, Nat.zero_le _, rfl, by simp [Hid], fun k j' _ h => absurd h (Nat.not_lt_zero _), HB.out, HSO.out, Z.out⟩
      case round =>
        clear HB HSO Z
        obtain ⟨i, B, hi, rfl, HBL, HA, HB, HSO, HZ⟩ := hrel
        by_cases hlt : i < L.length
        · obtain ⟨k, hk1, hk2, hk3⟩ := HF.out i hlt
          obtain ⟨gs, hgs, hgs1, hgs2⟩ := HSO.out.one (by have := HSL.out; omega)
          subst hgs
          obtain ⟨ga, hga, ca⟩ := HR.out.below HZ.out i hlt
          subst hga
          have cs := HSO.out.cellG i (by have := HSL.out; omega)
          rw [hk1] at cs
          have cb := HB.out.cellG k (by have := HBL.out; omega)
          have f0 := World.ownsRow.frozenAt (show wr.ownsRow _ _ _ _ _ _ from HB.out) k
          rw [getD_at L i hlt, hk3] at ca
          have hs := HB.out.put k (X.getD k 0)
          have nq : gs ≠ q := by have := HQL.out; omega
          have H1 := Lib.hid hs.1
          have H2 := Lib.hid (HZ.out.grown hs.2 HZ.out.size (fun r hq => by injection hq with hq; rw [← hq]; exact HQ.out))
          have H3 := Lib.hid (show (B.set k (X.getD k 0)).length = L.length by rw [List.length_set]; exact HBL.out)
          have H5 := Lib.hid (HSO.out.far hs.2 nq)
          have H4 := Lib.hid (show ∀ k' j' : Nat, k' < L.length → j' < i + 1 → S.getD j' 0 = (k' : Int) → (B.set k (X.getD k 0)).getD k' 0 = X.getD k' 0 by
            intro k' j' h1 h2 h3
            rw [getD_set _ _ _ _ (by have := HBL.out; omega)]
            by_cases e : k = k'
            · subst e; rw [if_pos rfl]
            · rw [if_neg e]
              refine HA.out k' j' h1 ?_ h3
              rcases Nat.lt_or_ge j' i with h | h
              · exact h
              · exfalso
                have : j' = i := by omega
                subst this
                rw [hk1] at h3
                exact e (by omega))
          generalize X.getD k 0 = x at ca H1 H2 H3 H4 H5
          generalize B.getD k 0 = u at cb
          have i0 : (0 : Int) ≤ (i : Int) := by omega
          have i1 : (i : Int) < (L.length : Int) := by omega
          have k0 : (0 : Int) ≤ (k : Int) := by omega
          have k1 : (k : Int) < (L.length : Int) := by omega
          clear hs hk1 hk2 hk3 nq hgs1 hgs2
          go_wp2
          go_roundw
          case rel => exact ⟨i + 1, _, by omega, by go_num, H3.out, H4.out, H1.out, H5.out, H2.out⟩
          case measure => (simp [intOf]; try omega)
        · have i1 : ¬ ((i : Int) < (L.length : Int)) := by omega
          have hBX : B = X := ext_getD (by rw [HBL.out, HXL.out]) (fun k hk => by
            have hk : k < L.length := by rw [← HBL.out]; exact hk
            obtain ⟨j', h1, h2⟩ := HM.out k hk
            exact HA.out k j' hk (by omega) h2)
          have HOX := Lib.hid (show OwD wr w.heap.size (some ⟨q, 0, none⟩) L.length X by rw [← hBX]; exact HB.out)
          clear hBX
          go_wp2
          go_light
          go_ret
          rw [← HX.out]
          refine ⟨some ⟨q, 0, none⟩, L.length, ?_, HOX.out, HZ.out⟩
          rw [HXL.out]
          rfl

end Go.Proofs.Ytkhneligclhgaaa
