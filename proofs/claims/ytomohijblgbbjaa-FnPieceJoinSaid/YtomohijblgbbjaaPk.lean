/- Pieces are joined again: the law. -/
import Derived.Test.YtomohijblgbbjaaPj
namespace Go.Proofs.Ytomohijblgbbjaa
open Go.ChangeShapes Go.WideShapes Go.ChangeAt Go.RowKit
set_option linter.unusedVariables false
set_option linter.unusedSimpArgs false

set_option maxRecDepth 100000 in
set_option maxHeartbeats 2000000 in
theorem wpTexts_rd (A B : Option Addr) (a b : Nat) (D : List ByteArray) (w : World) (hD : D.length ≤ 1048576) (rA : Rd 1 cS w A D) (rB : Rd 1 cS w B D) :
    Calls Try.prog 7 #[.slice A D.length a, .slice B D.length b] w fun e w' => e = .returned (.bool true) ∧ Below w.heap.size w w' := by
  have H1 := Lib.hid rA
  have H2 := Lib.hid rB
  have nl : ((D.length : Int) != (D.length : Int)) = false := by simp
  clear rA rB
  go_enter Try.func7, Try.ntmps7
  go_wp2
  go_loopw [5] (fun v wr => ∃ j : Nat, j ≤ D.length ∧ v = .int .i64 (j : Int) ∧ Hid (Below w.heap.size w wr)) (fun v _ => D.length - (intOf v).toNat)
  case atStart => exact ⟨0, Nat.zero_le _, rfl, Below.refl _ _⟩
  case round =>
    obtain ⟨j, hj, rfl, hB⟩ := hrel
    by_cases hlt : j < D.length
    · obtain ⟨g, o, hgo, ca⟩ := Rd.below H1.out hB.out j hlt
      obtain ⟨g', o', hgo', cb⟩ := Rd.below H2.out hB.out j hlt
      subst hgo hgo'
      generalize D[j] = x at ca cb
      have xr0 : wr.cell? ⟨g, o + j, none⟩ = some (.string x) := by simpa using ca 0 _ rfl
      have yr0 : wr.cell? ⟨g', o' + j, none⟩ = some (.string x) := by simpa using cb 0 _ rfl
      clear ca cb
      have lx : g < wr.heap.size := World.block_lt_of_cell? wr _ xr0
      have ly : g' < wr.heap.size := World.block_lt_of_cell? wr _ yr0
      have i0 : (0 : Int) ≤ (j : Int) := by omega
      have i1 : (j : Int) < (D.length : Int) := by omega
      go_upto_region 6 with (fail)
      refine wp_region_held_drew (S := fun w1 => Below wr.heap.size wr w1) (by kernel_rfl) ((Below.refl _ _).drew) (fun hq => ?_)
      refine takeD 0 17 (v := ?_) rfl rfl (by kernel_rfl) (by kernel_rfl) (by kernel_rfl) (fun _ _ _ h => h) (Or.inl ⟨by rfl, ?_⟩) (by assumption) ?_
      rotate_left
      · intro w1 hSw; obtain ⟨hcS, hfS⟩ := bcell hSw; go_simp; (try with_reducible rfl)
      (try simp only [Act.put, List.setIfInBounds_toArray, List.set_cons_zero, List.set_cons_succ])
      refine takeD 1 18 (v := ?_) rfl rfl (by kernel_rfl) (by kernel_rfl) (by kernel_rfl) (fun _ _ _ h => h) (Or.inl ⟨by rfl, ?_⟩) (by assumption) ?_
      rotate_left
      · intro w1 hSw; obtain ⟨hcS, hfS⟩ := bcell hSw; go_simp; (try with_reducible rfl)
      (try simp only [Act.put, List.setIfInBounds_toArray, List.set_cons_zero, List.set_cons_succ])
      refine takeD 2 19 (v := ?_) rfl rfl (by kernel_rfl) (by kernel_rfl) (by kernel_rfl) (fun _ _ _ h => h) (Or.inl ⟨by rfl, ?_⟩) (by assumption) ?_
      rotate_left
      · intro w1 hSw; obtain ⟨hcS, hfS⟩ := bcell hSw; go_simp; (try with_reducible rfl)
      (try simp only [Act.put, List.setIfInBounds_toArray, List.set_cons_zero, List.set_cons_succ])
      refine takeD 3 20 (v := ?_) rfl rfl (by kernel_rfl) (by kernel_rfl) (by kernel_rfl) (fun _ _ _ h => h) (Or.inl ⟨by rfl, ?_⟩) (by assumption) ?_
      rotate_left
      · intro w1 hSw; obtain ⟨hcS, hfS⟩ := bcell hSw; go_simp; (try with_reducible rfl)
      (try simp only [Act.put, List.setIfInBounds_toArray, List.set_cons_zero, List.set_cons_succ])
      refine takeD 4 21 (v := ?_) rfl rfl (by kernel_rfl) (by kernel_rfl) (by kernel_rfl) (fun _ _ _ h => h) (Or.inl ⟨by rfl, ?_⟩) (by assumption) ?_
      rotate_left
      · intro w1 hSw; obtain ⟨hcS, hfS⟩ := bcell hSw; go_simp; (try with_reducible rfl)
      (try simp only [Act.put, List.setIfInBounds_toArray, List.set_cons_zero, List.set_cons_succ])
      refine takeD 5 22 (v := ?_) rfl rfl (by kernel_rfl) (by kernel_rfl) (by kernel_rfl) (fun _ _ _ h => h) (Or.inl ⟨by rfl, ?_⟩) (by assumption) ?_
      rotate_left
      · intro w1 hSw; obtain ⟨hcS, hfS⟩ := bcell hSw; go_simp; (try with_reducible rfl)
      (try simp only [Act.put, List.setIfInBounds_toArray, List.set_cons_zero, List.set_cons_succ])
      refine takeD 6 23 (v := ?_) rfl rfl (by kernel_rfl) (by kernel_rfl) (by kernel_rfl) (fun _ _ _ h => h) (Or.inl ⟨by rfl, ?_⟩) (by assumption) ?_
      rotate_left
      · intro w1 hSw; obtain ⟨hcS, hfS⟩ := bcell hSw; go_simp; (try with_reducible rfl)
      (try simp only [Act.put, List.setIfInBounds_toArray, List.set_cons_zero, List.set_cons_succ])
      refine takeD 7 24 (v := ?_) rfl rfl (by kernel_rfl) (by kernel_rfl) (by kernel_rfl) (fun _ _ _ h => h) (Or.inl ⟨by rfl, ?_⟩) (by assumption) ?_
      rotate_left
      · intro w1 hSw; obtain ⟨hcS, hfS⟩ := bcell hSw; go_simp; (try with_reducible rfl)
      (try simp only [Act.put, List.setIfInBounds_toArray, List.set_cons_zero, List.set_cons_succ])
      refine takeD 8 25 (v := ?_) rfl rfl (by kernel_rfl) (by kernel_rfl) (by kernel_rfl) (fun _ _ _ h => h) (Or.inl ⟨by rfl, ?_⟩) (by assumption) ?_
      rotate_left
      · intro w1 hSw; obtain ⟨hcS, hfS⟩ := bcell hSw; go_simp; (try with_reducible rfl)
      (try simp only [Act.put, List.setIfInBounds_toArray, List.set_cons_zero, List.set_cons_succ])
      refine wpAnyH_done (by kernel_rfl) ?_ _
      have BQ := Lib.hid (Below.and hB.out hq)
      clear xr0 yr0 lx ly
      go_wp2
      go_roundw
      case rel => exact ⟨j + 1, by omega, by go_num, BQ.out⟩
      case measure => (simp [intOf]; try omega)
    · have i1 : ¬ (j : Int) < (D.length : Int) := by omega
      go_wp2
      go_light
      go_ret
      exact ⟨rfl, hB.out⟩

set_option maxRecDepth 100000 in
set_option maxHeartbeats 4000000 in
theorem lawPieceOf (A : Option Addr) (c n : Nat) (w : World) (hn : n ≤ maxLen) (hc : n ≤ c) (hb : InB w A n) :
    Calls Try.prog 3 #[.slice A n c] w fun e w' => e = .returned (.bool true) ∧ Below w.heap.size w w' := by
  have HB := Lib.hid hb
  clear hb
  go_enter Try.func3, Try.ntmps3
  by_cases h : n > 1048576
  · go_wp2
    go_light
    go_ret
    exact ⟨rfl, Below.refl _ _⟩
  go_wp2_with (fail)
  refine (drawPieceOf (by omega) hc HB.out).mono ?_
  rintro e w1 ⟨s, rfl, hs, hb⟩
  have Z := Lib.hid hb
  clear hb HB h
  obtain ⟨D, hD⟩ : ∃ D, D = pcs s := ⟨_, rfl⟩
  have HDE := Lib.hid hD
  have hl : D.length ≤ 17 := by rw [hD]; exact pcs_len s
  clear hD
  go_wp2_with (fail)
  refine (implPieceOf s _ (by omega)).mono ?_
  rw [← HDE.out]
  rintro e w2 ⟨B1, d1, rfl, oo, hb⟩
  have O1 := Lib.hid oo
  replace Z := Lib.hid (Below.and Z.out hb)
  clear oo hb
  go_wp2_with (fail)
  refine (specPieceOf s _ (by omega)).mono ?_
  rw [← HDE.out]
  rintro e w3 ⟨B2, d2, rfl, oo, hb⟩
  have O2 := Lib.hid oo
  replace O1 := Lib.hid (O1.out.below hb)
  replace Z := Lib.hid (Below.and Z.out hb)
  clear oo hb
  go_wp2_with (fail)
  refine (wpTexts_rd B1 B2 d1 d2 D _ (by omega) O1.out.rd O2.out.rd).mono ?_
  rintro e w4 ⟨rfl, hb⟩
  replace O1 := Lib.hid (O1.out.below hb)
  replace Z := Lib.hid (Below.and Z.out hb)
  clear hb O2
  by_cases hbig : 192 < s.size
  · have hD0 : D = [] := by rw [HDE.out]; unfold pcs; rw [if_pos hbig]
    have i9 : (192 : Int) < (s.size : Int) := by omega
    subst hD0
    go_wp2_with (fail)
    refine (specPieceOf s _ (by omega)).mono ?_
    rw [← HDE.out]
    rintro e w5 ⟨B3, d3, rfl, oo, hb⟩
    have O3 := Lib.hid oo
    replace O1 := Lib.hid (O1.out.below hb)
    replace Z := Lib.hid (Below.and Z.out hb)
    clear oo hb hbig
    go_wp2_with (fail)
    refine (wpTexts_rd B1 B3 d1 d3 [] _ (by simp) O1.out.rd O3.out.rd).mono ?_
    rintro e w6 ⟨rfl, hb⟩
    replace Z := Lib.hid (Below.and Z.out hb)
    clear hb
    go_wp2
    go_light
    go_ret
    exact ⟨rfl, Z.out⟩
  have h192 : s.size ≤ 192 := by omega
  have HW := Lib.hid (show joinR D = (s, true) by
    unfold joinR
    rw [HDE.out, (pcs_wf h192).1, pcs_join h192]
    rfl)
  have HLN := Lib.hid (show D.length = 1 ∨ D.length = (s.size + 11) / 12 by rw [HDE.out]; exact (pcs_wf h192).2)
  have hpos : 0 < D.length := by
    have := (wfB_small (pcs_wf h192).1).1
    rw [HDE.out]
    omega
  have e0 : ((D.length : Int) == 0) = false := by simp; intro hh; subst hh; simp at hpos
  clear hbig
  go_wp2_with (fail)
  refine (implPieceJoin D B1 d1 _ (by omega) O1.out.cap O1.out.rd).mono ?_
  rw [HW.out]
  rintro e w5 ⟨rfl, hb⟩
  replace Z := Lib.hid (Below.and Z.out hb)
  clear hb O1 HW HDE
  obtain ⟨k, hk⟩ : ∃ k, k = D.length := ⟨_, rfl⟩
  rw [← hk] at HLN hpos hl e0 ⊢
  clear hk
  by_cases h1 : k = 1
  · subst h1
    go_wp2
    go_light
    go_ret
    exact ⟨rfl, Z.out⟩
  · have h2 : k = (s.size + 11) / 12 := by rcases HLN.out with h | h <;> omega
    have e1 : ((k : Int) == 1) = false := by simp; omega
    have q1 : ((s.size : Int) + 11) / 12 = (k : Int) := by omega
    have q2 : ((s.size : Int) + 11).tdiv 12 = (k : Int) := by rw [Int.tdiv_eq_ediv_of_nonneg (by omega)]; exact q1
    have ew : IntKind.i64.wrap (k : Int) = (k : Int) := IntWalk.i64_in _ (by omega)
    clear h1 h2 HLN
    go_wp2
    go_light
    go_ret
    exact ⟨ret_bool (by rw [show ((s.size : Int) + 12 - 1) / 12 = (k : Int) by omega]; simp), Z.out⟩

end Go.Proofs.Ytomohijblgbbjaa
