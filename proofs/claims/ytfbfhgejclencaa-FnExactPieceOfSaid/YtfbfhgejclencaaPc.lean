/- Rows of texts: marked, and held against marks; the exact law of PieceOf, walked. -/
import Derived.Test.YtfbfhgejclencaaPb
namespace Go.Proofs.Ytfbfhgejclencaa
open Go.ChangeShapes Go.WideShapes Go.ChangeAt Go.RowKit
set_option linter.unusedVariables false
set_option linter.unusedSimpArgs false

def mts (k n : Nat) : List ByteArray := (List.range n).map fun i => MT (k + i)
theorem mts_len (k n : Nat) : (mts k n).length = n := by simp [mts]
theorem mts_flat (k n : Nat) : ((mts k n).flatMap cS).length = n := by
  rw [rows_length 1 cS (fun _ => rfl), mts_len, Nat.mul_one]
theorem mts_succ (k n : Nat) : (mts k (n + 1)).flatMap cS = (mts k n).flatMap cS ++ [.string (MT (k + n))] := by
  simp [mts, List.range_succ, cS]
theorem mts_at (k n j : Nat) (h : j < (mts k n).length) : (mts k n)[j] = MT (k + j) := by simp [mts]

set_option maxRecDepth 100000 in
set_option maxHeartbeats 2000000 in
theorem markStringS (base : Nat) (A : Option Addr) (c n k : Nat) (xs : List Value) (w : World) (h0 : 1 ≤ k) (h1 : k + n ≤ 9999) (hown : w.ownsRow base 9 1 (.slice A n c) n xs) :
    Calls Try.prog 8 #[.slice A n c, .int .i64 (k : Int)] w fun e w' => e = .returned (.int .i64 ((k + n : Nat) : Int)) ∧ w'.ownsRow base 9 1 (.slice A n c) n ((mts k n).flatMap cS) ∧ w.grownBy w' (Value.slice A n c).ownBlock := by
  have HO := Lib.hid hown
  have HX := Lib.hid (show n = xs.length by have := hown.1; omega)
  clear hown
  go_enter Try.func8, Try.ntmps8
  go_wp2
  go_loopw [1, 5] (fun kk i wr => ∃ j m : Nat, j ≤ n ∧ m = k + j ∧ i = .int .i64 (j : Int) ∧ kk = .int .i64 (m : Int) ∧ Hid (wr.ownsRow base 9 1 (.slice A n c) n ((mts k j).flatMap cS ++ xs.drop j)) ∧ Hid (w.grownBy wr (Value.slice A n c).ownBlock)) (fun _ i _ => n - (intOf i).toNat)
  case atStart => exact ⟨0, k, Nat.zero_le _, rfl, rfl, rfl, by simpa [Hid, mts] using HO.out, World.grownBy.refl _ _⟩
  case round =>
    clear HO
    obtain ⟨j, m, hj, hm, rfl, rfl, ho, hg⟩ := hrel
    by_cases hlt : j < n
    · have i1 : (j : Int) < (n : Int) := by omega
      have i0 : (0 : Int) ≤ (j : Int) := by omega
      have HM := Lib.hid hm
      have hm1 : 1 ≤ m := by omega
      have hm2 : m ≤ 9999 := by omega
      clear hm
      go_wp2_with (fail)
      refine (markText m _ hm1 hm2).mono ?_
      rintro e w2 ⟨rfl, hb⟩
      have HO2 := Lib.hid (own_below ho.out hb)
      have HG2 := Lib.hid (grownBy_trans hg.out (Below.grownBy hb _))
      clear hb ho hg
      obtain ⟨g, rfl, hb0, _⟩ := own_some HO2.out (by omega)
      have hf := fun p => HO2.out.frozenAt p
      obtain ⟨u0, hu0⟩ : ∃ u, w2.cell? ⟨g, j, none⟩ = some u := ⟨_, (HO2.out.cellAt j (by omega)).trans (List.getElem?_eq_getElem (by have := HX.out; have := mts_flat k j; simp only [List.length_append, List.length_drop]; omega))⟩
      obtain ⟨s1, s2⟩ := store1 j (.string (MT m)) (mts_flat k j) (by have := HX.out; omega) HO2.out
      rw [show (mts k j).flatMap cS ++ [.string (MT m)] = (mts k (j + 1)).flatMap cS by rw [mts_succ, HM.out]] at s1
      have S1 := Lib.hid s1
      have S2 := Lib.hid (grownBy_trans HG2.out s2)
      clear s1 s2 HO2 HG2
      go_wp2
      go_roundw
      case rel => exact ⟨j + 1, m + 1, by omega, by have := HM.out; omega, by go_num, by go_num, S1.out, S2.out⟩
      case measure => (simp [intOf]; try omega)
    · have i1 : ¬ (j : Int) < (n : Int) := by omega
      obtain rfl : j = n := by omega
      have h9 := ho.out
      rw [List.drop_of_length_le (by have := HX.out; omega), List.append_nil] at h9
      have H9 := Lib.hid h9
      clear h9 ho
      go_wp2
      go_light
      go_ret
      exact ⟨rfl, H9.out, hg.out⟩

set_option maxRecDepth 100000 in
set_option maxHeartbeats 2000000 in
theorem heldStringS (A : Option Addr) (c n k : Nat) (w : World) (h0 : 1 ≤ k) (h1 : k + n ≤ 9999) (hr : Rd 1 cS w A (mts k n)) :
    Calls Try.prog 9 #[.slice A n c, .int .i64 (k : Int)] w fun e w' => e = .returned (.int .i64 ((k + n : Nat) : Int)) ∧ Below w.heap.size w w' := by
  have HR := Lib.hid hr
  clear hr
  go_enter Try.func9, Try.ntmps9
  go_wp2
  go_loopw [1, 5] (fun kk i wr => ∃ j m : Nat, j ≤ n ∧ m = k + j ∧ i = .int .i64 (j : Int) ∧ kk = .int .i64 (m : Int) ∧ Hid (Below w.heap.size w wr)) (fun _ i _ => n - (intOf i).toNat)
  case atStart => exact ⟨0, k, Nat.zero_le _, rfl, rfl, rfl, Below.refl _ _⟩
  case round =>
    obtain ⟨j, m, hj, hm, rfl, rfl, hB⟩ := hrel
    by_cases hlt : j < n
    · have i1 : (j : Int) < (n : Int) := by omega
      have i0 : (0 : Int) ≤ (j : Int) := by omega
      obtain ⟨g, o, hgo, ca⟩ := Rd.below HR.out hB.out j (by rw [mts_len]; exact hlt)
      subst hgo
      rw [mts_at, ← hm] at ca
      have xr0 : wr.cell? ⟨g, o + j, none⟩ = some (.string (MT m)) := by simpa using ca 0 _ rfl
      have lx : g < wr.heap.size := World.block_lt_of_cell? wr _ xr0
      have HM := Lib.hid hm
      have hm1 : 1 ≤ m := by omega
      have hm2 : m ≤ 9999 := by omega
      clear hm ca
      go_upto_region 4 with (fail)
      refine wp_region_held_drew (S := fun w1 => Below wr.heap.size wr w1) (by kernel_rfl) ((Below.refl _ _).drew) (fun hq => ?_)
      refine takeD 0 12 (v := ?_) rfl rfl (by kernel_rfl) (by kernel_rfl) (by kernel_rfl) (fun _ _ _ h => h) (Or.inl ⟨by rfl, ?_⟩) (by assumption) ?_
      rotate_left
      · intro w1 hSw; obtain ⟨hcS, hfS⟩ := bcell hSw; go_simp; (try with_reducible rfl)
      (try simp only [Act.put, List.setIfInBounds_toArray, List.set_cons_zero, List.set_cons_succ])
      refine takeD 1 13 (v := ?_) rfl rfl (by kernel_rfl) (by kernel_rfl) (by kernel_rfl) (fun _ _ _ h => h) (Or.inl ⟨by rfl, ?_⟩) (by assumption) ?_
      rotate_left
      · intro w1 hSw; obtain ⟨hcS, hfS⟩ := bcell hSw; go_simp; (try with_reducible rfl)
      (try simp only [Act.put, List.setIfInBounds_toArray, List.set_cons_zero, List.set_cons_succ])
      refine takeD 2 14 (v := ?_) rfl rfl (by kernel_rfl) (by kernel_rfl) (by kernel_rfl) (fun _ _ _ h => h) (Or.inl ⟨by rfl, ?_⟩) (by assumption) ?_
      rotate_left
      · intro w1 hSw; obtain ⟨hcS, hfS⟩ := bcell hSw; go_simp; (try with_reducible rfl)
      (try simp only [Act.put, List.setIfInBounds_toArray, List.set_cons_zero, List.set_cons_succ])
      refine takeD 3 15 (v := ?_) rfl rfl (by kernel_rfl) (by kernel_rfl) (by kernel_rfl) (fun _ _ _ h => h) (Or.inl ⟨by rfl, ?_⟩) (by assumption) ?_
      rotate_left
      · intro w1 hSw; obtain ⟨hcS, hfS⟩ := bcell hSw; go_simp; (try with_reducible rfl)
      (try simp only [Act.put, List.setIfInBounds_toArray, List.set_cons_zero, List.set_cons_succ])
      refine takeD 4 16 (v := ?_) rfl rfl (by kernel_rfl) (by kernel_rfl) (by kernel_rfl) (fun _ _ _ h => h) (Or.inl ⟨by rfl, ?_⟩) (by assumption) ?_
      rotate_left
      · intro w1 hSw; obtain ⟨hcS, hfS⟩ := bcell hSw; go_simp; (try with_reducible rfl)
      (try simp only [Act.put, List.setIfInBounds_toArray, List.set_cons_zero, List.set_cons_succ])
      refine wpAnyH_ready (rs := [5]) (by kernel_rfl) (by simp) ?_
      refine AllReadyH.cons rfl (fun K hK => ?_) AllReadyH.nil
      go_simp
      refine (markText m _ hm1 hm2).mono ?_
      rintro e w2 ⟨rfl, hb⟩
      refine hK.out _ _ (Below.and hq hb) (fun hq2 => ?_)
      clear hK K
      (try simp only [Act.put, List.setIfInBounds_toArray, List.set_cons_zero, List.set_cons_succ])
      refine takeD 6 18 (v := ?_) rfl rfl (by kernel_rfl) (by kernel_rfl) (by kernel_rfl) (fun _ _ _ h => h) (Or.inl ⟨by rfl, ?_⟩) (by assumption) ?_
      rotate_left
      · intro w1 hSw; obtain ⟨hcS, hfS⟩ := bcell hSw; go_simp; (try with_reducible rfl)
      (try simp only [Act.put, List.setIfInBounds_toArray, List.set_cons_zero, List.set_cons_succ])
      refine wpAnyH_done (by kernel_rfl) ?_ _
      have BQ := Lib.hid (Below.and hB.out hq2)
      clear xr0 lx
      go_wp2
      go_roundw
      case rel => exact ⟨j + 1, m + 1, by omega, by have := HM.out; omega, by go_num, by go_num, BQ.out⟩
      case measure => (simp [intOf]; try omega)
    · have i1 : ¬ (j : Int) < (n : Int) := by omega
      obtain rfl : j = n := by omega
      go_wp2
      go_light
      go_ret
      exact ⟨rfl, hB.out⟩

set_option maxRecDepth 100000 in
set_option maxHeartbeats 4000000 in
theorem exactPieceOf (s : ByteArray) (w : World) :
    Calls Try.prog 3 #[.string s] w fun e w' => e = .returned (.bool true) ∧ Below w.heap.size w w' := by
  go_enter Try.func3, Try.ntmps3
  by_cases hs : s.size > 1048576
  · have i0 : (1048576 : Int) < (s.size : Int) := by omega
    go_wp2
    go_light
    go_ret
    exact ⟨rfl, Below.refl _ _⟩
  have i0 : ¬ (1048576 : Int) < (s.size : Int) := by omega
  have hs2 : s.size ≤ 1048576 := by omega
  clear hs
  obtain ⟨D, hD⟩ : ∃ D, D = pcs s := ⟨_, rfl⟩
  have HDE := Lib.hid hD
  have hl : D.length ≤ 17 := by rw [hD]; exact pcs_len s
  clear hD
  go_wp2_with (fail)
  refine (specPieceOf s _ hs2).mono ?_
  rw [← HDE.out]
  rintro e w1 ⟨B0, d0, rfl, o0, hb⟩
  have O0 := Lib.hid o0
  have U0 := Lib.hid (fun x hx => (o0.ge x hx).2)
  have Z := Lib.hid hb
  clear o0 hb
  go_wp2_with (fail)
  refine (implPieceOf s _ hs2).mono ?_
  rw [← HDE.out]
  rintro e w2 ⟨B1, d1, rfl, o1, hb⟩
  have O1 := Lib.hid o1
  replace O0 := Lib.hid (O0.out.below hb)
  have Z1 := Lib.hid Z.out.size
  replace Z := Lib.hid (Below.and Z.out hb)
  clear o1 hb
  go_wp2_with (fail)
  refine (eqStringS_rd B1 B0 d1 d0 D _ (by omega) O1.out.rd O0.out.rd).mono ?_
  rintro e w3 ⟨rfl, hb⟩
  replace O0 := Lib.hid (O0.out.below hb)
  replace O1 := Lib.hid (O1.out.below hb)
  replace Z := Lib.hid (Below.and Z.out hb)
  clear hb
  go_wp2_with (fail)
  refine (markStringS _ B1 d1 D.length 1 _ _ (by omega) (by omega) (show World.ownsRow _ _ _ _ _ _ _ from O1.out)).mono ?_
  rintro e w4 ⟨rfl, om, hg⟩
  have M1 := Lib.hid (show Rd 1 cS w4 B1 (mts 1 D.length) from Rd.of_own (f := cS) (k := 1) (fun _ => rfl) om (mts_len 1 D.length))
  have O0 : Hid (OwS w4 w.heap.size B0 d0 D) := own_same (show World.ownsRow _ _ _ _ _ _ _ from O0.out) (fun x hx => hg.block x (O0.out.ge x hx).2 (fun e => by
    have h1 := U0.out x hx; have h2 := (O1.out.ge x e.symm).1; omega))
  replace Z := Lib.hid (Z.out.grown hg Z.out.size (fun x hx => by have h2 := (O1.out.ge x hx).1; have h3 := Z1.out; omega))
  obtain ⟨m, hm⟩ : ∃ m : Nat, m = 1 + D.length := ⟨_, rfl⟩
  rw [← hm]
  have HMM := Lib.hid hm
  have m0 : decide ((m : Int) < 0) = false := by simp
  have mm : ((m : Int) != (m : Int)) = false := by simp
  clear om hg O1 U0 Z1 hm
  go_wp2_with (fail)
  refine (heldStringS B1 d1 D.length 1 _ (by omega) (by omega) M1.out).mono ?_
  rintro e w5 ⟨rfl, hb⟩
  rw [← HMM.out]
  replace O0 := Lib.hid (O0.out.below hb)
  replace M1 := Lib.hid (Rd.below M1.out hb)
  replace Z := Lib.hid (Below.and Z.out hb)
  clear hb
  go_wp2_with (fail)
  refine (implPieceOf s _ hs2).mono ?_
  rw [← HDE.out]
  rintro e w6 ⟨B2, d2, rfl, o2, hb⟩
  have O2 := Lib.hid o2
  replace O0 := Lib.hid (O0.out.below hb)
  replace M1 := Lib.hid (Rd.below M1.out hb)
  replace Z := Lib.hid (Below.and Z.out hb)
  clear o2 hb
  go_wp2_with (fail)
  refine (eqStringS_rd B2 B0 d2 d0 D _ (by omega) O2.out.rd O0.out.rd).mono ?_
  rintro e w7 ⟨rfl, hb⟩
  replace M1 := Lib.hid (Rd.below M1.out hb)
  replace Z := Lib.hid (Below.and Z.out hb)
  clear hb O2 O0
  go_wp2_with (fail)
  refine (heldStringS B1 d1 D.length 1 _ (by omega) (by omega) M1.out).mono ?_
  rintro e w8 ⟨rfl, hb⟩
  rw [← HMM.out]
  replace Z := Lib.hid (Below.and Z.out hb)
  clear hb
  go_wp2
  go_light
  go_ret
  exact ⟨rfl, Z.out⟩

end Go.Proofs.Ytfbfhgejclencaa
