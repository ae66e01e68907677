/- A request read from a text: the program's side whole; the model's numbers. -/
import Derived.Test.YtolepfbhhmganaaDoorSj
namespace Go.Proofs.YtolepfbhhmganaaDoor
open Go.ChangeShapes Go.WideShapes Go.ChangeAt Go.RowKit
set_option linter.unusedVariables false
set_option linter.unusedSimpArgs false

theorem nums4 {a b x y : ByteArray} (h : ¬ NoNums [a, b, x, y]) : ∃ v0 v1 v2 v3, Nums [a, b, x, y] [v0, v1, v2, v3] := by
  have each : ∀ i (hi : i < [a, b, x, y].length), ∃ v, Lib.atoiAll ([a, b, x, y][i]'hi).data.toList = .ok v := by
    intro i hi
    rcases hq : Lib.atoiAll ([a, b, x, y][i]'hi).data.toList with v | _ | _
    · exact ⟨v, rfl⟩
    · exact absurd ⟨i, hi, fun v => by rw [hq]; intro h; cases h⟩ h
    · exact absurd ⟨i, hi, fun v => by rw [hq]; intro h; cases h⟩ h
  obtain ⟨v0, h0⟩ := each 0 (by simp)
  obtain ⟨v1, h1⟩ := each 1 (by simp)
  obtain ⟨v2, h2⟩ := each 2 (by simp)
  obtain ⟨v3, h3⟩ := each 3 (by simp)
  refine ⟨v0, v1, v2, v3, rfl, fun i hi hi' => ?_⟩
  rcases i with _ | _ | _ | _ | i
  · exact h0
  · exact h1
  · exact h2
  · exact h3
  · simp at hi; omega
theorem nums_at {a b x y : ByteArray} {v0 v1 v2 v3 : Int} (h : Nums [a, b, x, y] [v0, v1, v2, v3]) : Lib.atoiAll a.data.toList = .ok v0 ∧ Lib.atoiAll b.data.toList = .ok v1 ∧ Lib.atoiAll x.data.toList = .ok v2 ∧ Lib.atoiAll y.data.toList = .ok v3 :=
  ⟨h.2 0 (by simp) (by simp), h.2 1 (by simp) (by simp), h.2 2 (by simp) (by simp), h.2 3 (by simp) (by simp)⟩
theorem five_el {α : Type} {l : List α} (h : l.length = 5) : ∃ a b c d e, l = [a, b, c, d, e] :=
  match l, h with
  | [a, b, c, d, e], _ => ⟨a, b, c, d, e, rfl⟩
def GetV (l : List UInt8) : Value := .tuple #[.agg #[.int .i64 (getT l).1.c, .int .i64 (getT l).1.n, .int .i64 (getT l).1.o, .int .i64 (getT l).1.x, .int .i64 (getT l).1.y], .bool (getT l).2]
theorem getV_of {l : List UInt8} {r : Rq} {b : Bool} (h : getT l = (r, b)) : GetV l = .tuple #[.agg #[.int .i64 r.c, .int .i64 r.n, .int .i64 r.o, .int .i64 r.x, .int .i64 r.y], .bool b] := by
  unfold GetV; rw [h]
theorem implReqGet (s : ByteArray) (w : World) (hs : s.size ≤ 1048576) (E : Env w) :
    Calls Tryd.prog 13 #[.string s] w fun e w' => e = .returned (GetV s.data.toList) ∧ Below w.heap.size w w' := by
  by_cases hl : s.data.toList = [110, 111, 110, 101]
  · have h0 : getT s.data.toList = (⟨0, 0, 0, 0, 0⟩, true) := by rw [hl]; exact get_none
    rw [getV_of h0]
    exact implGet_none s w hl
  by_cases h5 : (piecesB s).length = 5
  · obtain ⟨a, b, c, x, y, h5'⟩ := five_el h5
    by_cases hN : NoNums [a, b, x, y]
    · rw [getV_of (get_bad hl fun r => ?_)]
      · exact implGet_bad s a b c x y w hs hl h5' hN E
      · rcases hg : goodB s.data.toList r with _ | _
        · rfl
        · exfalso
          obtain ⟨v0, v1, v2, v3, q0, q1, q2, q3⟩ := (pieces_good hg).2 a b c x y h5'
          obtain ⟨i, hi, hv⟩ := hN
          rcases i with _ | _ | _ | _ | i
          · exact hv _ q0
          · exact hv _ q1
          · exact hv _ q2
          · exact hv _ q3
          · simp at hi; omega
    · obtain ⟨v0, v1, v2, v3, hM⟩ := nums4 hN
      obtain ⟨q0, q1, q2, q3⟩ := nums_at hM
      have hp := parse_pieces h5' q0 q1 q2 q3
      by_cases hT : putT ⟨v0, v1, opT c.data.toList, v2, v3⟩ = s.data.toList
      · rw [getV_of (get_five hl h5 hp hT)]
        exact implGet_yes s a b c x y v0 v1 v2 v3 w hs hl h5' hM _ rfl _ rfl hT E
      · rw [getV_of (get_five_no hl hp hT)]
        exact implGet_no s a b c x y v0 v1 v2 v3 w hs hl h5' hM _ rfl _ rfl hT E
  · rw [getV_of (get_bad hl fun r => ?_)]
    · exact implGet_few s w hs hl h5 E
    · rcases hg : goodB s.data.toList r with _ | _
      · rfl
      · exact absurd (pieces_good hg).1 h5

/-! The model's numbers -/
/-- A number of one or two figures, without a nought ahead. -/
def numG (n : Nat) (b0 b1 : Int) : Int :=
  if n = 1 then (if 48 ≤ b0 ∧ b0 ≤ 57 then b0 - 48 else -999)
  else if n = 2 then (if (49 ≤ b0 ∧ b0 ≤ 57) ∧ 48 ≤ b1 ∧ b1 ≤ 57 then (b0 - 48) * 10 + (b1 - 48) else -999)
  else -999
def bt (s : ByteArray) (i : Nat) : Int := ((s.data.toList.getD i 0).toNat : Int)
theorem bt_at (s : ByteArray) (i : Nat) (h : i < s.size) : ((s[i]'h).toNat : Int) = bt s i := by
  unfold bt
  rw [List.getD_eq_getElem?_getD, Lib.data_getElem? s i h]
  rfl

/-- What the loop has read when k figures are behind it. -/
def valG (k : Nat) (b0 b1 : Int) : Int := if k = 0 then 0 else if k = 1 then b0 - 48 else (b0 - 48) * 10 + (b1 - 48)
def digG (k : Nat) (b0 b1 : Int) : Prop := (1 ≤ k → 48 ≤ b0 ∧ b0 ≤ 57) ∧ (2 ≤ k → 48 ≤ b1 ∧ b1 ≤ 57)

theorem bt_lo (s : ByteArray) (i : Nat) : 0 ≤ bt s i := by unfold bt; omega
theorem bt_hi (s : ByteArray) (i : Nat) : bt s i ≤ 255 := by unfold bt; have := (s.data.toList.getD i 0).toNat_lt; omega
theorem digG_1 {b0 b1 : Int} (h0 : 48 ≤ b0) (h1 : b0 ≤ 57) : Hid (digG (0 + 1) b0 b1) := ⟨fun _ => ⟨h0, h1⟩, fun h => by omega⟩
theorem digG_2 {b0 b1 : Int} (h : digG 1 b0 b1) (h0 : 48 ≤ b1) (h1 : b1 ≤ 57) : Hid (digG (1 + 1) b0 b1) := ⟨fun _ => h.1 (by omega), fun _ => ⟨h0, h1⟩⟩

set_option maxRecDepth 100000 in
set_option maxHeartbeats 2000000 in
theorem l1Num_short (s : ByteArray) (w : World) (hs : s.size ≤ 1048577) (h1 : s.size ≤ 1) :
    Calls Tryd.prog 31 #[.string s] w fun e w' => e = .returned (.int .i64 (numG s.size (bt s 0) (bt s 1))) ∧ w = w' := by
  have e0 : decide ((1 : Int) < (s.size : Int)) = false := by simp; omega
  have e0' : decide (1 < s.size) = false := by simp; omega
  have n1 : ¬ 1 < s.size := by omega
  go_enter Tryd.func31, Tryd.ntmps31
  go_wp2
  go_loop [4, 5] (fun n i => ∃ k : Nat, k ≤ 2 ∧ k ≤ s.size ∧ i = .int .i64 k ∧ n = .int .i64 (valG k (bt s 0) (bt s 1)) ∧ Hid (digG k (bt s 0) (bt s 1))) (fun _ i => s.size - (intOf i).toNat)
  case atStart => exact ⟨0, by omega, by omega, rfl, rfl, ⟨(fun h => by omega), (fun h => by omega)⟩⟩
  case round =>
    obtain ⟨k, hk2, hks, rfl, rfl, HD⟩ := hrel
    have hk : k = 0 ∨ k = 1 ∨ k = 2 := by omega
    rcases hk with rfl | rfl | rfl
    · rw [show valG 0 (bt s 0) (bt s 1) = 0 from rfl]
      by_cases hlt : 0 < s.size
      · have hsz : 0 < s.size := by omega
        have hbk : (((s[0]'hsz).toNat : Nat) : Int) = bt s 0 := bt_at s 0 hsz
        have g0 := bt_lo s 0
        have g1 := bt_hi s 0
        have n0 : ((0 : Nat) : Int) < (s.size : Int) := by omega
        by_cases t0 : bt s 0 < 48
        · have t0' : decide (bt s 0 < 48) = true := by simpa using t0
          go_wp2
          go_light
          go_ret
          exact ⟨ret_int (by unfold numG; (repeat' split) <;> omega), rfl⟩
        have t0' : decide (bt s 0 < 48) = false := by simpa using t0
        by_cases t1 : 57 < bt s 0
        · have t1' : decide (57 < bt s 0) = true := by simpa using t1
          go_wp2
          go_light
          go_ret
          exact ⟨ret_int (by unfold numG; (repeat' split) <;> omega), rfl⟩
        have t1' : decide (57 < bt s 0) = false := by simpa using t1
        have hu : IntKind.u8.wrap (bt s 0 - 48) = bt s 0 - 48 := by have hbits : IntKind.u8.bits = 8 := rfl; simp only [IntKind.wrap, hbits]; simp; omega
        go_wp2
        go_light
        go_round
        case rel => exact ⟨0 + 1, (by omega), (by omega), (by go_num), (by simp [valG]), digG_1 (by omega) (by omega)⟩
        case measure => simp [intOf]; omega
      · have hz : s.size = 0 := by omega
        have z0 : ((s.size : Int) == 0) = true := by rw [hz]; rfl
        have z0' : (s.size == 0) = true := by rw [hz]; rfl
        have n0 : ¬ ((0 : Nat) : Int) < (s.size : Int) := by omega
        go_wp2
        go_light
        go_ret
        exact ⟨ret_int (by unfold numG; (repeat' split) <;> omega), rfl⟩
    · rw [show valG 1 (bt s 0) (bt s 1) = bt s 0 - 48 from rfl]
      obtain ⟨r0, r1⟩ := HD.out.1 (by omega)
      have q0 : 0 < s.size := by omega
      have hb0 : (((s[0]'q0).toNat : Nat) : Int) = bt s 0 := bt_at s 0 q0
      by_cases hlt : 1 < s.size
      · exfalso; omega
      · have hz : s.size = 1 := by omega
        have z0 : ((s.size : Int) == 0) = false := by rw [hz]; rfl
        have z0' : (s.size == 0) = false := by rw [hz]; rfl
        have n0 : ¬ ((1 : Nat) : Int) < (s.size : Int) := by omega
        have n1 : ¬ (1 : Int) < (s.size : Int) := by omega
        have n1' : ¬ 1 < s.size := by omega
        go_wp2
        go_light
        go_ret
        exact ⟨ret_int (by unfold numG; (repeat' split) <;> omega), rfl⟩
    · exfalso; omega

set_option maxRecDepth 100000 in
set_option maxHeartbeats 2000000 in
theorem l1Num_long (s : ByteArray) (w : World) (hs : s.size ≤ 1048577) (hd : ¬ (bt s 0 = 45 ∧ bt s 1 ≠ 48)) (h1 : 1 < s.size) :
    Calls Tryd.prog 31 #[.string s] w fun e w' => e = .returned (.int .i64 (numG s.size (bt s 0) (bt s 1))) ∧ w = w' := by
  have q0 : 0 < s.size := by omega
  have hb0 : (((s[0]'q0).toNat : Nat) : Int) = bt s 0 := bt_at s 0 q0
  have hb1 : (((s[1]'h1).toNat : Nat) : Int) = bt s 1 := bt_at s 1 h1
  have n1 : (1 : Int) < (s.size : Int) := by omega
  have e45 : (bt s 0 == 45) = true ∧ (bt s 1 != 48) = false ∨ (bt s 0 == 45) = false := by
    by_cases h : bt s 0 = 45
    · left; refine ⟨by simpa using h, ?_⟩
      by_cases h' : bt s 1 = 48
      · simp [h']
      · exact absurd ⟨h, h'⟩ hd
    · right; simpa using h
  clear hd
  rcases e45 with ⟨e45, e48⟩ | e45
  all_goals
  go_enter Tryd.func31, Tryd.ntmps31
  go_wp2
  go_loop [4, 5] (fun n i => ∃ k : Nat, k ≤ 2 ∧ k ≤ s.size ∧ i = .int .i64 k ∧ n = .int .i64 (valG k (bt s 0) (bt s 1)) ∧ Hid (digG k (bt s 0) (bt s 1))) (fun _ i => s.size - (intOf i).toNat)
  case atStart => exact ⟨0, by omega, by omega, rfl, rfl, ⟨(fun h => by omega), (fun h => by omega)⟩⟩
  case round =>
    obtain ⟨k, hk2, hks, rfl, rfl, HD⟩ := hrel
    have hk : k = 0 ∨ k = 1 ∨ k = 2 := by omega
    rcases hk with rfl | rfl | rfl
    · rw [show valG 0 (bt s 0) (bt s 1) = 0 from rfl]
      by_cases hlt : 0 < s.size
      · have hsz : 0 < s.size := by omega
        have hbk : (((s[0]'hsz).toNat : Nat) : Int) = bt s 0 := bt_at s 0 hsz
        have g0 := bt_lo s 0
        have g1 := bt_hi s 0
        have n0 : ((0 : Nat) : Int) < (s.size : Int) := by omega
        by_cases t0 : bt s 0 < 48
        · have t0' : decide (bt s 0 < 48) = true := by simpa using t0
          go_wp2
          go_light
          go_ret
          exact ⟨ret_int (by unfold numG; (repeat' split) <;> omega), rfl⟩
        have t0' : decide (bt s 0 < 48) = false := by simpa using t0
        by_cases t1 : 57 < bt s 0
        · have t1' : decide (57 < bt s 0) = true := by simpa using t1
          go_wp2
          go_light
          go_ret
          exact ⟨ret_int (by unfold numG; (repeat' split) <;> omega), rfl⟩
        have t1' : decide (57 < bt s 0) = false := by simpa using t1
        have hu : IntKind.u8.wrap (bt s 0 - 48) = bt s 0 - 48 := by have hbits : IntKind.u8.bits = 8 := rfl; simp only [IntKind.wrap, hbits]; simp; omega
        go_wp2
        go_light
        go_round
        case rel => exact ⟨0 + 1, (by omega), (by omega), (by go_num), (by simp [valG]), digG_1 (by omega) (by omega)⟩
        case measure => simp [intOf]; omega
      · have hz : s.size = 0 := by omega
        have z0 : ((s.size : Int) == 0) = true := by rw [hz]; rfl
        have z0' : (s.size == 0) = true := by rw [hz]; rfl
        have n0 : ¬ ((0 : Nat) : Int) < (s.size : Int) := by omega
        go_wp2
        go_light
        go_ret
        exact ⟨ret_int (by unfold numG; (repeat' split) <;> omega), rfl⟩
    · rw [show valG 1 (bt s 0) (bt s 1) = bt s 0 - 48 from rfl]
      obtain ⟨r0, r1⟩ := HD.out.1 (by omega)
      have q0 : 0 < s.size := by omega
      have hb0 : (((s[0]'q0).toNat : Nat) : Int) = bt s 0 := bt_at s 0 q0
      by_cases hlt : 1 < s.size
      · have hsz : 1 < s.size := by omega
        have hbk : (((s[1]'hsz).toNat : Nat) : Int) = bt s 1 := bt_at s 1 hsz
        have g0 := bt_lo s 1
        have g1 := bt_hi s 1
        have n0 : ((1 : Nat) : Int) < (s.size : Int) := by omega
        by_cases t0 : bt s 1 < 48
        · have t0' : decide (bt s 1 < 48) = true := by simpa using t0
          go_wp2
          go_light
          go_ret
          exact ⟨ret_int (by unfold numG; (repeat' split) <;> omega), rfl⟩
        have t0' : decide (bt s 1 < 48) = false := by simpa using t0
        by_cases t1 : 57 < bt s 1
        · have t1' : decide (57 < bt s 1) = true := by simpa using t1
          go_wp2
          go_light
          go_ret
          exact ⟨ret_int (by unfold numG; (repeat' split) <;> omega), rfl⟩
        have t1' : decide (57 < bt s 1) = false := by simpa using t1
        have hu : IntKind.u8.wrap (bt s 1 - 48) = bt s 1 - 48 := by have hbits : IntKind.u8.bits = 8 := rfl; simp only [IntKind.wrap, hbits]; simp; omega
        go_wp2
        go_light
        go_round
        case rel => exact ⟨1 + 1, (by omega), (by omega), (by go_num), (by simp [valG]), digG_2 HD.out (by omega) (by omega)⟩
        case measure => simp [intOf]; omega
      · have hz : s.size = 1 := by omega
        have z0 : ((s.size : Int) == 0) = false := by rw [hz]; rfl
        have z0' : (s.size == 0) = false := by rw [hz]; rfl
        have n0 : ¬ ((1 : Nat) : Int) < (s.size : Int) := by omega
        have n1 : ¬ (1 : Int) < (s.size : Int) := by omega
        have n1' : ¬ 1 < s.size := by omega
        go_wp2
        go_light
        go_ret
        exact ⟨ret_int (by unfold numG; (repeat' split) <;> omega), rfl⟩
    · rw [show valG 2 (bt s 0) (bt s 1) = (bt s 0 - 48) * 10 + (bt s 1 - 48) from rfl]
      obtain ⟨r0, r1⟩ := HD.out.1 (by omega)
      have q0 : 0 < s.size := by omega
      have hb0 : (((s[0]'q0).toNat : Nat) : Int) = bt s 0 := bt_at s 0 q0
      obtain ⟨r2, r3⟩ := HD.out.2 (by omega)
      by_cases hlt : 2 < s.size
      · have hsz : 2 < s.size := by omega
        have hbk : (((s[2]'hsz).toNat : Nat) : Int) = bt s 2 := bt_at s 2 hsz
        have g0 := bt_lo s 2
        have g1 := bt_hi s 2
        have n0 : ((2 : Nat) : Int) < (s.size : Int) := by omega
        by_cases t0 : bt s 2 < 48
        · have t0' : decide (bt s 2 < 48) = true := by simpa using t0
          go_wp2
          go_light
          go_ret
          exact ⟨ret_int (by unfold numG; (repeat' split) <;> omega), rfl⟩
        have t0' : decide (bt s 2 < 48) = false := by simpa using t0
        by_cases t1 : 57 < bt s 2
        · have t1' : decide (57 < bt s 2) = true := by simpa using t1
          go_wp2
          go_light
          go_ret
          exact ⟨ret_int (by unfold numG; (repeat' split) <;> omega), rfl⟩
        have t1' : decide (57 < bt s 2) = false := by simpa using t1
        go_wp2
        go_light
        go_ret
        exact ⟨ret_int (by unfold numG; (repeat' split) <;> omega), rfl⟩
      · have hz : s.size = 2 := by omega
        have z0 : ((s.size : Int) == 0) = false := by rw [hz]; rfl
        have z0' : (s.size == 0) = false := by rw [hz]; rfl
        have n0 : ¬ ((2 : Nat) : Int) < (s.size : Int) := by omega
        have n1 : (1 : Int) < (s.size : Int) := by omega
        have n1' : 1 < s.size := by omega
        by_cases c0 : bt s 0 = 48
        · have c0' : (bt s 0 == 48) = true := by simpa using c0
          go_wp2
          go_light
          go_ret
          exact ⟨ret_int (by unfold numG; (repeat' split) <;> omega), rfl⟩
        · have c0' : (bt s 0 == 48) = false := by simpa using c0
          go_wp2
          go_light
          go_ret
          exact ⟨ret_int (by unfold numG; (repeat' split) <;> omega), rfl⟩

end Go.Proofs.YtolepfbhhmganaaDoor
