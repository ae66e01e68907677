/- Dice: the next number, a roll, all mixed, both ways. -/
import Derived.Test.YtkhneligclhgaaaFa
namespace Go.Proofs.Ytkhneligclhgaaa
open Go.ChangeShapes Go.WideShapes Go.ChangeAt Go.RowKit
set_option linter.unusedVariables false
set_option linter.unusedSimpArgs false

theorem ret_i {a b : Int} (h : a = b) : Ending.returned (.int .i64 a) = .returned (.int .i64 b) := by rw [h]
theorem xor64 (a b : Nat) (ha : a ≤ 2147483647) (hb : b ≤ 2147483647) : bits .xor .i64 (a : Int) (b : Int) = ((a ^^^ b : Nat) : Int) := by
  have hx : a ^^^ b < 2 ^ 32 := Nat.xor_lt_two_pow (by omega) (by omega)
  have h1 : (BitVec.ofInt 64 (a : Int)).toNat = a := by
    rw [BitVec.ofInt_natCast, BitVec.toNat_ofNat]; exact Nat.mod_eq_of_lt (by omega)
  have h2 : (BitVec.ofInt 64 (b : Int)).toNat = b := by
    rw [BitVec.ofInt_natCast, BitVec.toNat_ofNat]; exact Nat.mod_eq_of_lt (by omega)
  show IntKind.i64.wrap ((BitVec.ofInt 64 (a : Int) ^^^ BitVec.ofInt 64 (b : Int)).toNat : Int) = _
  rw [BitVec.toNat_xor, h1, h2]
  exact IntWalk.i64_in _ (by omega)
theorem isSeed (s : Int) (w : World) :
    Calls Try.prog 35 #[.int .i64 s] w fun e w' => e = .returned (.bool (inB s 0 2147483647)) ∧ w = w' := by
  go_enter Try.func35, Try.ntmps35
  go_wp2_with (go_at_call 38; refine (implIn _ _ _ _).mono ?_; rintro e w' ⟨rfl, rfl⟩)
  go_ret
  exact ⟨rfl, rfl⟩

set_option maxRecDepth 100000 in
set_option maxHeartbeats 2000000 in
theorem implNext (s : Int) (w : World) :
    Calls Try.prog 14 #[.int .i64 s] w fun e w' => e = .returned (.int .i64 (dNxI s)) ∧ w = w' := by
  rcases h : inB s 0 2147483647 with _ | _
  · have HX := Lib.hid (show dNxI s = -1 by unfold dNxI sdB; rw [h]; rfl)
    go_enter Try.func14, Try.ntmps14
    go_wp2_with (go_at_call 35; refine (isSeed _ _).mono ?_; rintro e w' ⟨rfl, rfl⟩; rw [h])
    go_ret
    exact ⟨ret_i HX.out.symm, rfl⟩
  · obtain ⟨n, rfl, hn⟩ := sdB_nat (show sdB s = true from h)
    have HX := Lib.hid (dNxI_nat hn)
    have e1 : IntKind.i64.wrap ((n : Int) * 1103515245) = (n : Int) * 1103515245 := IntWalk.i64_in _ (by omega)
    have e2 : IntKind.i64.wrap ((n : Int) * 1103515245 + 12345) = (n : Int) * 1103515245 + 12345 := IntWalk.i64_in _ (by omega)
    have HE := Lib.hid (show ((n : Int) * 1103515245 + 12345) % 2147483648 = ((dNx n : Nat) : Int) by unfold dNx; omega)
    go_enter Try.func14, Try.ntmps14
    go_wp2_with (go_at_call 35; refine (isSeed _ _).mono ?_; rintro e w' ⟨rfl, rfl⟩; rw [h])
    go_ret
    exact ⟨ret_i (by rw [HX.out, ← HE.out]), rfl⟩

set_option maxRecDepth 100000 in
set_option maxHeartbeats 2000000 in
theorem specNext (s : Int) (w : World) :
    Calls Try.prog 15 #[.int .i64 s] w fun e w' => e = .returned (.int .i64 (dNxI s)) ∧ w = w' := by
  rcases h : inB s 0 2147483647 with _ | _
  · have HX := Lib.hid (show dNxI s = -1 by unfold dNxI sdB; rw [h]; rfl)
    go_enter Try.func15, Try.ntmps15
    go_wp2_with (go_at_call 36; refine (specIn _ _ _ _).mono ?_; rintro e w' ⟨rfl, rfl⟩; rw [h])
    go_ret
    exact ⟨ret_i HX.out.symm, rfl⟩
  · obtain ⟨n, rfl, hn⟩ := sdB_nat (show sdB s = true from h)
    have HX := Lib.hid (dNxI_nat hn)
    have e1 : IntKind.i64.wrap ((n : Int) * 1103515245) = (n : Int) * 1103515245 := IntWalk.i64_in _ (by omega)
    have e2 : IntKind.i64.wrap ((n : Int) * 1103515245 + 12345) = (n : Int) * 1103515245 + 12345 := IntWalk.i64_in _ (by omega)
    have HE := Lib.hid (show ((n : Int) * 1103515245 + 12345) % 2147483648 = ((dNx n : Nat) : Int) by unfold dNx; omega)
    go_enter Try.func15, Try.ntmps15
    go_wp2_with (go_at_call 36; refine (specIn _ _ _ _).mono ?_; rintro e w' ⟨rfl, rfl⟩; rw [h])
    go_ret
    exact ⟨ret_i (by rw [HX.out, ← HE.out]), rfl⟩

set_option maxRecDepth 100000 in
set_option maxHeartbeats 2000000 in
theorem implRoll (s k : Int) (w : World) :
    Calls Try.prog 17 #[.int .i64 s, .int .i64 k] w fun e w' => e = .returned (.tuple #[.int .i64 (dRl s k).1, .int .i64 (dRl s k).2]) ∧ w = w' := by
  rcases h : inB s 0 2147483647 with _ | _
  · have HX := Lib.hid (show dRl s k = (-1, -1) by unfold dRl rlB sdB; rw [h]; rfl)
    go_enter Try.func17, Try.ntmps17
    go_wp2_with (first | (go_at_call 35; refine (isSeed _ _).mono ?_; rintro e w' ⟨rfl, rfl⟩; rw [h]) | (go_at_call 38; refine (implIn _ _ _ _).mono ?_; rintro e w' ⟨rfl, rfl⟩; rw [h2]))
    go_ret2
    rw [HX.out]
    exact ⟨rfl, rfl⟩
  · rcases h2 : inB k 1 20 with _ | _
    · have HX := Lib.hid (show dRl s k = (-1, -1) by unfold dRl rlB sdB; rw [h, h2]; rfl)
      go_enter Try.func17, Try.ntmps17
      go_wp2_with (first | (go_at_call 35; refine (isSeed _ _).mono ?_; rintro e w' ⟨rfl, rfl⟩; rw [h]) | (go_at_call 38; refine (implIn _ _ _ _).mono ?_; rintro e w' ⟨rfl, rfl⟩; rw [h2]))
      go_ret2
      rw [HX.out]
      exact ⟨rfl, rfl⟩
    · obtain ⟨n, rfl, hn⟩ := sdB_nat (show sdB s = true from h)
      obtain ⟨m, rfl, hm1, hm2⟩ : ∃ m : Nat, k = (m : Int) ∧ 1 ≤ m ∧ m ≤ 20 := by
        simp only [inB, Bool.and_eq_true, decide_eq_true_eq] at h2
        exact ⟨k.toNat, by omega, by omega, by omega⟩
      have HX := Lib.hid (dRl_nat hn hm1 hm2)
      have HN := Lib.hid (dNxI_nat hn)
      have hnx := dNx_lt n
      have HK := Lib.hid (show dRk n m = dNx n / 65536 % m from rfl)
      obtain ⟨x, hx⟩ : ∃ x, dNx n = x := ⟨_, rfl⟩
      rw [hx] at HN HX HK hnx
      clear hx
      have e1 : (x : Int).tdiv 65536 = ((x / 65536 : Nat) : Int) := by rw [Int.tdiv_eq_ediv_of_nonneg (by omega)]; omega
      have e3 : (x : Int) / 65536 = ((x / 65536 : Nat) : Int) := by omega
      obtain ⟨q, hq⟩ : ∃ q, x / 65536 = q := ⟨_, rfl⟩
      rw [hq] at e1 e3 HK
      have e2 : IntKind.i64.wrap (q : Int) = (q : Int) := IntWalk.i64_in _ (by omega)
      have HM := Lib.hid (show (q : Int) % (m : Int) = ((q % m : Nat) : Int) by omega)
      have m0 : (m : Int) ≠ 0 := by omega
      have m1 : ((m : Int) == 0) = false := by simp; omega
      have hql : q % m < m := Nat.mod_lt _ (by omega)
      clear hq
      go_enter Try.func17, Try.ntmps17
      go_wp2_with (first | (go_at_call 35; refine (isSeed _ _).mono ?_; rintro e w' ⟨rfl, rfl⟩; rw [h]) | (go_at_call 38; refine (implIn _ _ _ _).mono ?_; rintro e w' ⟨rfl, rfl⟩; rw [h2]) | (go_at_call 14; refine (implNext _ _).mono ?_; rintro e w' ⟨rfl, rfl⟩; rw [HN.out]))
      go_ret2
      rw [HX.out, HK.out]
      exact ⟨by simp, rfl⟩

set_option maxRecDepth 100000 in
set_option maxHeartbeats 2000000 in
theorem specRoll (s k : Int) (w : World) :
    Calls Try.prog 18 #[.int .i64 s, .int .i64 k] w fun e w' => e = .returned (.tuple #[.int .i64 (dRl s k).1, .int .i64 (dRl s k).2]) ∧ w = w' := by
  rcases h : inB s 0 2147483647 with _ | _
  · have HX := Lib.hid (show dRl s k = (-1, -1) by unfold dRl rlB sdB; rw [h]; rfl)
    go_enter Try.func18, Try.ntmps18
    go_wp2_with (first | (go_at_call 36; refine (specIn _ _ _ _).mono ?_; rintro e w' ⟨rfl, rfl⟩; first | rw [h] | rw [h2]))
    go_ret2
    rw [HX.out]
    exact ⟨rfl, rfl⟩
  · rcases h2 : inB k 1 20 with _ | _
    · have HX := Lib.hid (show dRl s k = (-1, -1) by unfold dRl rlB sdB; rw [h, h2]; rfl)
      go_enter Try.func18, Try.ntmps18
      go_wp2_with (first | (go_at_call 36; refine (specIn _ _ _ _).mono ?_; rintro e w' ⟨rfl, rfl⟩; first | rw [h] | rw [h2]))
      go_ret2
      rw [HX.out]
      exact ⟨rfl, rfl⟩
    · obtain ⟨n, rfl, hn⟩ := sdB_nat (show sdB s = true from h)
      obtain ⟨m, rfl, hm1, hm2⟩ : ∃ m : Nat, k = (m : Int) ∧ 1 ≤ m ∧ m ≤ 20 := by
        simp only [inB, Bool.and_eq_true, decide_eq_true_eq] at h2
        exact ⟨k.toNat, by omega, by omega, by omega⟩
      have HX := Lib.hid (dRl_nat hn hm1 hm2)
      have HN := Lib.hid (dNxI_nat hn)
      have hnx := dNx_lt n
      have HK := Lib.hid (show dRk n m = dNx n / 65536 % m from rfl)
      obtain ⟨x, hx⟩ : ∃ x, dNx n = x := ⟨_, rfl⟩
      rw [hx] at HN HX HK hnx
      clear hx
      have e1 : (x : Int).tdiv 65536 = ((x / 65536 : Nat) : Int) := by rw [Int.tdiv_eq_ediv_of_nonneg (by omega)]; omega
      have e3 : (x : Int) / 65536 = ((x / 65536 : Nat) : Int) := by omega
      obtain ⟨q, hq⟩ : ∃ q, x / 65536 = q := ⟨_, rfl⟩
      rw [hq] at e1 e3 HK
      have e2 : IntKind.i64.wrap (q : Int) = (q : Int) := IntWalk.i64_in _ (by omega)
      have HM := Lib.hid (show (q : Int) % (m : Int) = ((q % m : Nat) : Int) by omega)
      have m0 : (m : Int) ≠ 0 := by omega
      have m1 : ((m : Int) == 0) = false := by simp; omega
      have hql : q % m < m := Nat.mod_lt _ (by omega)
      clear hq
      go_enter Try.func18, Try.ntmps18
      go_wp2_with (first | (go_at_call 36; refine (specIn _ _ _ _).mono ?_; rintro e w' ⟨rfl, rfl⟩; first | rw [h] | rw [h2]) | (go_at_call 15; refine (specNext _ _).mono ?_; rintro e w' ⟨rfl, rfl⟩; rw [HN.out]))
      go_ret2
      rw [HX.out, HK.out]
      exact ⟨by simp, rfl⟩

set_option maxRecDepth 100000 in
set_option maxHeartbeats 2000000 in
theorem implMix (A : Option Addr) (c : Nat) (L : List Int) (w : World) (hl : L.length ≤ 2097153) (hr : RdI w A L) :
    Calls Try.prog 20 #[.slice A L.length c] w fun e w' => e = .returned (.int .i64 (mixI L)) ∧ Below w.heap.size w w' := by
  have HR := Lib.hid hr
  clear hr
  go_enter Try.func20, Try.ntmps20
  go_wp2
  go_loopw [3, 8] (fun v u wr => ∃ j : Nat, j ≤ L.length ∧ v = .int .i64 ((mixN (L.take j) : Nat) : Int) ∧ u = .int .i64 (j : Int) ∧ Hid (mixB (L.take j) = true) ∧ Hid (Below w.heap.size w wr)) (fun _ u _ => L.length - (intOf u).toNat)
  case atStart => exact ⟨0, Nat.zero_le _, rfl, rfl, by simp [Hid, mixB], Below.refl _ _⟩
  case round =>
    obtain ⟨j, hj, rfl, rfl, hb, hB⟩ := hrel
    by_cases hlt : j < L.length
    · obtain ⟨g, hg0, hg⟩ := HR.out.below hB.out j hlt
      subst hg0
      have HT := Lib.hid (List.take_succ_eq_append_getElem hlt)
      have HD := Lib.hid (List.drop_eq_getElem_cons hlt)
      have HML := Lib.hid (mixN_lt _ hb.out)
      generalize L[j] = y at hg HT HD
      have i0 : (0 : Int) ≤ (j : Int) := by omega
      have i1 : (j : Int) < (L.length : Int) := by omega
      obtain ⟨x, hx⟩ : ∃ x, mixN (L.take j) = x := ⟨_, rfl⟩
      have HX := Lib.hid hx
      rw [hx] at HML ⊢
      clear hx
      rcases h : inB y 0 2147483647 with _ | _
      · have HZ := Lib.hid (show mixI L = -1 by
          have e : mixB L = false := by
            unfold mixB
            rw [List.all_eq_false]
            exact ⟨y, by rw [← List.take_append_drop j L, HD.out]; simp, by rw [show sdB y = false from h]; simp⟩
          unfold mixI; rw [e]; rfl)
        clear HT HD HML HX hb
        go_wp2_with (go_at_call 35; refine (isSeed _ _).mono ?_; rintro e w' ⟨rfl, rfl⟩; rw [h])
        first
          | (go_ret; exact ⟨ret_i HZ.out.symm, Below.drewN hB.out _⟩)
          | (go_ret; exact ⟨ret_i HZ.out.symm, hB.out⟩)
          | (go_quiet (fail); go_wp2; go_ret; exact ⟨ret_i HZ.out.symm, Below.drewN hB.out _⟩)
      · obtain ⟨n, rfl, hn⟩ := sdB_nat (show sdB y = true from h)
        have ex := xor64 x n HML.out hn
        have HN := Lib.hid (show mixN (L.take (j + 1)) = x ^^^ n by rw [HT.out, mixN_app, HX.out]; show x ^^^ ((n : Int).toNat ^^^ 0) = _; rw [Nat.xor_zero]; rfl)
        have HBB := Lib.hid (show mixB (L.take (j + 1)) = true by rw [HT.out, mixB_app, hb.out]; simp [mixB, sdB_of hn])
        generalize x ^^^ n = z at ex HN
        clear HT HD HML HX hb
        go_wp2_with (go_at_call 35; refine (isSeed _ _).mono ?_; rintro e w' ⟨rfl, rfl⟩; rw [h])
        go_roundw
        case rel => exact ⟨j + 1, by omega, by rw [HN.out], by go_num, HBB.out, by first | exact hB.out | exact Below.drewN hB.out _⟩
        case measure => (simp [intOf]; try omega)
    · obtain rfl : j = L.length := by omega
      have i1 : ¬ ((L.length : Int) < (L.length : Int)) := by omega
      have HZ := Lib.hid (show mixI L = ((mixN (L.take L.length) : Nat) : Int) by have := hb.out; rw [List.take_length] at this ⊢; exact mixI_yes this)
      generalize mixN (L.take L.length) = x at HZ
      go_wp2
      go_ret
      exact ⟨ret_i HZ.out.symm, hB.out⟩

set_option maxRecDepth 100000 in
set_option maxHeartbeats 2000000 in
theorem specMix (A : Option Addr) (c : Nat) (L : List Int) (w : World) (hl : L.length ≤ 2097153) (hr : RdI w A L) :
    Calls Try.prog 21 #[.slice A L.length c] w fun e w' => e = .returned (.int .i64 (mixI L)) ∧ Below w.heap.size w w' := by
  have HR := Lib.hid hr
  clear hr
  go_enter Try.func21, Try.ntmps21
  go_wp2
  go_loopw [3, 4] (fun v u wr => ∃ j : Nat, j ≤ L.length ∧ v = .int .i64 ((mixN (L.take j) : Nat) : Int) ∧ u = .int .i64 (j : Int) ∧ Hid (mixB (L.take j) = true) ∧ Hid (Below w.heap.size w wr)) (fun _ u _ => L.length - (intOf u).toNat)
  case atStart => exact ⟨0, Nat.zero_le _, rfl, rfl, by simp [Hid, mixB], Below.refl _ _⟩
  case round =>
    obtain ⟨j, hj, rfl, rfl, hb, hB⟩ := hrel
    by_cases hlt : j < L.length
    · obtain ⟨g, hg0, hg⟩ := HR.out.below hB.out j hlt
      subst hg0
      have HT := Lib.hid (List.take_succ_eq_append_getElem hlt)
      have HD := Lib.hid (List.drop_eq_getElem_cons hlt)
      have HML := Lib.hid (mixN_lt _ hb.out)
      generalize L[j] = y at hg HT HD
      have i0 : (0 : Int) ≤ (j : Int) := by omega
      have i1 : (j : Int) < (L.length : Int) := by omega
      obtain ⟨x, hx⟩ : ∃ x, mixN (L.take j) = x := ⟨_, rfl⟩
      have HX := Lib.hid hx
      rw [hx] at HML ⊢
      clear hx
      rcases h : inB y 0 2147483647 with _ | _
      · have HZ := Lib.hid (show mixI L = -1 by
          have e : mixB L = false := by
            unfold mixB
            rw [List.all_eq_false]
            exact ⟨y, by rw [← List.take_append_drop j L, HD.out]; simp, by rw [show sdB y = false from h]; simp⟩
          unfold mixI; rw [e]; rfl)
        clear HT HD HML HX hb
        go_wp2_with (go_at_call 36; refine (specIn _ _ _ _).mono ?_; rintro e w' ⟨rfl, rfl⟩; rw [h])
        first
          | (go_ret; exact ⟨ret_i HZ.out.symm, Below.drewN hB.out _⟩)
          | (go_ret; exact ⟨ret_i HZ.out.symm, hB.out⟩)
          | (go_quiet (fail); go_wp2; go_ret; exact ⟨ret_i HZ.out.symm, Below.drewN hB.out _⟩)
      · obtain ⟨n, rfl, hn⟩ := sdB_nat (show sdB y = true from h)
        have ex := xor64 x n HML.out hn
        have HN := Lib.hid (show mixN (L.take (j + 1)) = x ^^^ n by rw [HT.out, mixN_app, HX.out]; show x ^^^ ((n : Int).toNat ^^^ 0) = _; rw [Nat.xor_zero]; rfl)
        have HBB := Lib.hid (show mixB (L.take (j + 1)) = true by rw [HT.out, mixB_app, hb.out]; simp [mixB, sdB_of hn])
        generalize x ^^^ n = z at ex HN
        clear HT HD HML HX hb
        go_wp2_with (go_at_call 36; refine (specIn _ _ _ _).mono ?_; rintro e w' ⟨rfl, rfl⟩; rw [h])
        go_roundw
        case rel => exact ⟨j + 1, by omega, by rw [HN.out], by go_num, HBB.out, by first | exact hB.out | exact Below.drewN hB.out _⟩
        case measure => (simp [intOf]; try omega)
    · obtain rfl : j = L.length := by omega
      have i1 : ¬ ((L.length : Int) < (L.length : Int)) := by omega
      have HZ := Lib.hid (show mixI L = ((mixN (L.take L.length) : Nat) : Int) by have := hb.out; rw [List.take_length] at this ⊢; exact mixI_yes this)
      generalize mixN (L.take L.length) = x at HZ
      go_wp2
      go_ret
      exact ⟨ret_i HZ.out.symm, hB.out⟩

set_option maxRecDepth 100000 in
set_option maxHeartbeats 2000000 in
theorem canShuffle (A : Option Addr) (c : Nat) (L : List Int) (s : Int) (w : World) (hl : L.length ≤ 2097153) :
    Calls Try.prog 40 #[.slice A L.length c, .int .i64 s] w fun e w' => e = .returned (.bool (shB L s)) ∧ w = w' := by
  rcases h : inB s 0 2147483647 with _ | _
  all_goals by_cases h2 : (L.length : Int) ≤ 20
  all_goals have HZ := Lib.hid h2
  all_goals have HS := Lib.hid h
  all_goals go_enter Try.func40, Try.ntmps40
  all_goals go_wp2_with (go_at_call 35; refine (isSeed _ _).mono ?_; rintro e w' ⟨rfl, rfl⟩; rw [h])
  all_goals go_ret
  all_goals refine ⟨ret_bool ?_, rfl⟩
  all_goals (unfold shB sdB; rw [HS.out]; have := HZ.out; simp; try omega)

set_option maxRecDepth 100000 in
set_option maxHeartbeats 2000000 in
theorem l16Ok (A : Option Addr) (c : Nat) (L : List Int) (s : Int) (w : World) (hl : L.length ≤ 2097153) :
    Calls Try.prog 42 #[.slice A L.length c, .int .i64 s] w fun e w' => e = .returned (.bool (shB L s)) ∧ w = w' := by
  rcases h : inB s 0 2147483647 with _ | _
  all_goals by_cases h2 : (L.length : Int) ≤ 20
  all_goals have HZ := Lib.hid h2
  all_goals have HS := Lib.hid h
  all_goals go_enter Try.func42, Try.ntmps42
  all_goals go_wp2_with (go_at_call 36; refine (specIn _ _ _ _).mono ?_; rintro e w' ⟨rfl, rfl⟩; rw [h])
  all_goals go_ret
  all_goals refine ⟨ret_bool ?_, rfl⟩
  all_goals (unfold shB sdB; rw [HS.out]; have := HZ.out; simp; try omega)

end Go.Proofs.Ytkhneligclhgaaa
