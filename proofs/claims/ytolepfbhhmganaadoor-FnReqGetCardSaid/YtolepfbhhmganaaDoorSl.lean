/- The model's numbers, with a dash, and its cuts. -/
import Derived.Test.YtolepfbhhmganaaDoorSk
import Derived.Laws.AppendOwn
namespace Go.Proofs.YtolepfbhhmganaaDoor
open Go.ChangeShapes Go.WideShapes Go.ChangeAt Go.RowKit
set_option linter.unusedVariables false
set_option linter.unusedSimpArgs false

/-- A number, a dash ahead. -/
def numS : Nat → ByteArray → Int
  | 0, s => numG s.size (bt s 0) (bt s 1)
  | k + 1, s => if 1 < s.size ∧ bt s 0 = 45 ∧ bt s 1 ≠ 48 then (if numS k (s.extract 1 s.size) < 0 then -999 else -(numS k (s.extract 1 s.size))) else numG s.size (bt s 0) (bt s 1)
theorem numG_bd (n : Nat) (b0 b1 : Int) : -999 ≤ numG n b0 b1 ∧ numG n b0 b1 ≤ 99 := by
  unfold numG
  (repeat' split) <;> omega
theorem numS_bd (k : Nat) : ∀ s, -999 ≤ numS k s ∧ numS k s ≤ 99 := by
  induction k with
  | zero => intro s; exact numG_bd _ _ _
  | succ k ih =>
    intro s
    have := ih (s.extract 1 s.size)
    unfold numS
    split
    · split <;> omega
    · exact numG_bd _ _ _

set_option maxRecDepth 100000 in
set_option maxHeartbeats 2000000 in
theorem l1Num (k : Nat) : ∀ (s : ByteArray) (w : World), s.size ≤ k + 1 → s.size ≤ 1048577 →
    Calls Tryd.prog 31 #[.string s] w fun e w' => e = .returned (.int .i64 (numS k s)) ∧ w = w' := by
  induction k with
  | zero =>
    intro s w hk hs
    exact l1Num_short s w hs (by omega)
  | succ k ih =>
    intro s w hk hs
    by_cases hd : 1 < s.size ∧ bt s 0 = 45 ∧ bt s 1 ≠ 48
    · obtain ⟨h1, h45, h48⟩ := hd
      have HE := Lib.hid (show numS (k + 1) s = (if numS k (s.extract 1 s.size) < 0 then -999 else -(numS k (s.extract 1 s.size))) by rw [numS, if_pos ⟨h1, h45, h48⟩])
      have q0 : 0 < s.size := by omega
      have hb0 : (((s[0]'q0).toNat : Nat) : Int) = bt s 0 := bt_at s 0 q0
      have hb1 : (((s[1]'h1).toNat : Nat) : Int) = bt s 1 := bt_at s 1 h1
      have n1 : (1 : Int) < (s.size : Int) := by omega
      have n2 : (1 : Int) ≤ (s.size : Int) := by omega
      have e45 : (bt s 0 == 45) = true := by simpa using h45
      have e48 : (bt s 1 != 48) = true := by simpa using h48
      have hx : (s.extract 1 s.size).size = s.size - 1 := by rw [ByteArray.size_extract]; omega
      obtain ⟨b0, b1⟩ := numS_bd k (s.extract 1 s.size)
      have IH := Lib.hid (fun W => ih (s.extract 1 s.size) W (by omega) (by omega))
      generalize hv : numS k (s.extract 1 s.size) = v at HE IH b0 b1
      have HI := Lib.hid IH
      clear h45 h48 hk hv hx ih IH
      go_enter Tryd.func31, Tryd.ntmps31
      go_wp2_with (fail)
      refine (HI.out.out _).mono ?_
      rintro e w1 ⟨rfl, rfl⟩
      by_cases hn : v < 0
      · have hn' : decide (v < 0) = true := by simpa using hn
        go_wp2
        go_light
        go_ret
        exact ⟨ret_int (by rw [HE.out, if_pos hn]), rfl⟩
      · have hn' : decide (v < 0) = false := by simpa using hn
        go_wp2
        go_light
        go_ret
        exact ⟨ret_int (by rw [HE.out, if_neg (by omega)]), rfl⟩
    · rw [show numS (k + 1) s = numG s.size (bt s 0) (bt s 1) by rw [numS, if_neg hd]]
      by_cases h1 : 1 < s.size
      · exact l1Num_long s w hs (fun h => hd ⟨h1, h⟩) h1
      · exact l1Num_short s w hs (by omega)

theorem bt_mk (l : List UInt8) (i : Nat) : bt ⟨l.toArray⟩ i = ((l.getD i 0).toNat : Int) := rfl
theorem mk_size (l : List UInt8) : (⟨l.toArray⟩ : ByteArray).size = l.length := by simp [ByteArray.size]
theorem digI {n : Nat} (h : n < 10) : ((UInt8.ofNat (48 + n)).toNat : Int) = 48 + (n : Int) := by rw [dig_toNat h]; omega
/-- What is written as a number is read as it. -/
theorem numS_itoa (k : Nat) (s : ByteArray) (n : Int) (h : s.data.toList = Lib.itoa n) (h0 : -9 ≤ n) (h1 : n ≤ 99) (hk : s.size ≤ k + 1) : numS k s = n := by
  have hs := bs_of h
  have pos : ∀ (m : Nat) (k : Nat) (t : ByteArray), m ≤ 99 → t = ⟨(Lib.decDigits m).toArray⟩ → numS k t = m := by
    intro m k t hm ht
    have key : numG t.size (bt t 0) (bt t 1) = m ∧ bt t 0 ≠ 45 := by
      subst ht
      by_cases h9 : m < 10
      · rw [dec_small h9, mk_size, bt_mk, bt_mk]
        simp only [List.length_singleton, List.getD_cons_zero]
        rw [digI h9]
        unfold numG
        rw [if_pos rfl]
        refine ⟨?_, by omega⟩
        split <;> omega
      · rw [dec_big h9, dec_small (by omega), mk_size, bt_mk, bt_mk]
        simp only [List.cons_append, List.nil_append, List.length_cons, List.length_nil, List.getD_cons_zero, List.getD_cons_succ]
        rw [digI (by omega), digI (by omega)]
        unfold numG
        rw [if_neg (by omega), if_pos (by omega)]
        refine ⟨?_, by omega⟩
        split <;> omega
    cases k with
    | zero => exact key.1
    | succ k => rw [numS, if_neg (fun h => key.2 h.2.1)]; exact key.1
  by_cases hn : 0 ≤ n
  · rw [itoa_nonneg hn] at hs
    have := pos n.toNat k s (by omega) hs
    omega
  · rw [itoa_neg' (by omega), dec_small (by omega)] at hs
    have hsz : s.size = 2 := by rw [hs, mk_size]; rfl
    rcases k with _ | k
    · omega
    have e0 : bt s 0 = 45 := by rw [hs, bt_mk]; rfl
    have e1 : bt s 1 = 48 + (n.natAbs : Int) := by
      rw [hs, bt_mk]
      simp only [List.getD_cons_zero, List.getD_cons_succ]
      exact digI (by omega)
    have ex : s.extract 1 s.size = ⟨(Lib.decDigits n.natAbs).toArray⟩ := by
      refine bs_of ?_
      rw [Lib.extract_to_end, hs, dec_small (by omega)]
      rfl
    have hp := pos n.natAbs k _ (by omega) ex
    rw [numS, if_pos ⟨by omega, e0, by omega⟩, hp, if_neg (by omega)]
    omega

end Go.Proofs.YtolepfbhhmganaaDoor
