/- Claims held against each other: the model's loop and Go's own. -/
import Derived.Test.YtephmhgjhjheaaaUc
import Derived.Test.YtephmhgjhjheaaaEq
namespace Go.Proofs.Ytephmhgjhjheaaa
open Go.ChangeShapes Go.WideShapes Go.ChangeAt Go.RowKit
set_option linter.unusedVariables false

set_option maxRecDepth 100000 in
theorem l3SameClaims (A B : Option Addr) (c d : Nat) (la lb : List Cl) (w : World) (hA : la.length ≤ maxLen) (hB : lb.length ≤ maxLen) (ha : RdC w A la) (hb : RdC w B lb) :
    Calls Try.prog 168 #[.slice A la.length c, .slice B lb.length d] w fun e w' => e = .returned (.bool (decide (la = lb))) ∧ ∃ m, w' = w.drewN m := by
  unfold maxLen at hA hB
  have HA := Lib.hid ha
  have HB := Lib.hid hb
  clear ha hb
  by_cases hl : la.length = lb.length
  · have hl1 : ((la.length : Int) != (lb.length : Int)) = false := by simp [hl]
    have HL := Lib.hid hl
    clear hl
    go_enter Try.func168, Try.ntmps168
    go_wp2
    go_loopw [5] (fun i wr => ∃ k m : Nat, k ≤ la.length ∧ i = .int .i64 k ∧ wr = w.drewN m ∧ Hid (la.take k = lb.take k)) (fun i _ => la.length - (intOf i).toNat)
    case atStart => exact ⟨0, 0, Nat.zero_le _, rfl, rfl, by simp [Hid]⟩
    case round =>
      obtain ⟨k, m, hk, rfl, rfl, ht⟩ := hrel
      by_cases hlt : k < la.length
      · have hltb : k < lb.length := by have := HL.out; omega
        obtain ⟨g, o, rfl, ca⟩ := HA.out k hlt
        obtain ⟨g', o', rfl, cb⟩ := HB.out k hltb
        obtain ⟨x, hx⟩ : ∃ x, x = la[k] := ⟨_, rfl⟩
        obtain ⟨y, hy⟩ : ∃ y, y = lb[k] := ⟨_, rfl⟩
        rw [← hx] at ca
        rw [← hy] at cb
        have HX := Lib.hid hx
        have HY := Lib.hid hy
        clear hx hy
        have a0 : w.cell? ⟨g, o + k * 7, none⟩ = some (.int .i64 x.s) := ca 0 _ rfl
        have a1 : w.cell? ⟨g, o + k * 7 + 1, none⟩ = some (.int .i64 x.v) := ca 1 _ rfl
        have a2 : w.cell? ⟨g, o + k * 7 + 2, none⟩ = some (.int .i64 x.r.c) := ca 2 _ rfl
        have a3 : w.cell? ⟨g, o + k * 7 + 3, none⟩ = some (.int .i64 x.r.n) := ca 3 _ rfl
        have a4 : w.cell? ⟨g, o + k * 7 + 4, none⟩ = some (.int .i64 x.r.o) := ca 4 _ rfl
        have a5 : w.cell? ⟨g, o + k * 7 + 5, none⟩ = some (.int .i64 x.r.x) := ca 5 _ rfl
        have a6 : w.cell? ⟨g, o + k * 7 + 6, none⟩ = some (.int .i64 x.r.y) := ca 6 _ rfl
        have b0 : w.cell? ⟨g', o' + k * 7, none⟩ = some (.int .i64 y.s) := cb 0 _ rfl
        have b1 : w.cell? ⟨g', o' + k * 7 + 1, none⟩ = some (.int .i64 y.v) := cb 1 _ rfl
        have b2 : w.cell? ⟨g', o' + k * 7 + 2, none⟩ = some (.int .i64 y.r.c) := cb 2 _ rfl
        have b3 : w.cell? ⟨g', o' + k * 7 + 3, none⟩ = some (.int .i64 y.r.n) := cb 3 _ rfl
        have b4 : w.cell? ⟨g', o' + k * 7 + 4, none⟩ = some (.int .i64 y.r.o) := cb 4 _ rfl
        have b5 : w.cell? ⟨g', o' + k * 7 + 5, none⟩ = some (.int .i64 y.r.x) := cb 5 _ rfl
        have b6 : w.cell? ⟨g', o' + k * 7 + 6, none⟩ = some (.int .i64 y.r.y) := cb 6 _ rfl
        clear ca cb
        have i0 : (0 : Int) ≤ (k : Int) := by omega
        have i1 : (k : Int) < (la.length : Int) := by omega
        have i2 : (k : Int) < (lb.length : Int) := by omega
        have hq := neqClaim x y
        rcases hxy : decide (x = y) with _ | _
        all_goals simp only [hxy] at hq
        · have HD := Lib.hid hxy
          clear hxy
          go_wp2_with (fail)
          go_quiet (fail)
          go_wp2
          go_ret
          exact ⟨ret_bool (decide_eq_false (ne_of_at hlt hltb (by rw [← HX.out, ← HY.out]; simpa using HD.out))).symm, m + nq, World.drewN_drewN ..⟩
        · have HD := Lib.hid hxy
          clear hxy
          go_wp2_with (fail)
          go_quiet (fail)
          go_wp2
          go_roundw
          case rel => exact ⟨k + 1, _, by omega, by go_num, rfl, take_step hlt hltb ht.out (by rw [← HX.out, ← HY.out]; simpa using HD.out)⟩
          case measure => simp [intOf]; omega
      · have hz : k = la.length := by omega
        have HZ := Lib.hid hz
        clear hz
        go_wp2
        go_ret
        have h1 := ht.out
        rw [HZ.out, List.take_length, HL.out, List.take_length] at h1
        exact ⟨ret_bool (decide_eq_true h1).symm, m, rfl⟩
  · have hl1 : ((la.length : Int) != (lb.length : Int)) = true := by simp; omega
    have HL := Lib.hid hl
    clear hl
    go_enter Try.func168, Try.ntmps168
    go_wp2
    go_ret
    exact ⟨ret_bool (decide_eq_false (fun e => HL.out (by rw [e]))).symm, 0, rfl⟩

set_option maxRecDepth 100000 in
theorem slEqual (A B : Option Addr) (c d : Nat) (la lb : List Cl) (w : World) (hA : la.length ≤ maxLen) (hB : lb.length ≤ maxLen) (ha : RdC w A la) (hb : RdC w B lb) :
    Calls Try.prog 107 #[.slice A la.length c, .slice B lb.length d] w fun e w' => e = .returned (.bool (decide (la = lb))) ∧ ∃ m, w' = w.drewN m := by
  unfold maxLen at hA hB
  have HA := Lib.hid ha
  have HB := Lib.hid hb
  clear ha hb
  by_cases hl : la.length = lb.length
  · have hl1 : ((la.length : Int) != (lb.length : Int)) = false := by simp [hl]
    have HL := Lib.hid hl
    clear hl
    go_enter Try.func107, Try.ntmps107
    go_wp2
    go_loopw [13] (fun i wr => ∃ k m : Nat, k ≤ la.length ∧ i = .int .i64 k ∧ wr = w.drewN m ∧ Hid (la.take k = lb.take k)) (fun i _ => la.length - (intOf i).toNat)
    case atStart => exact ⟨0, 0, Nat.zero_le _, rfl, rfl, by simp [Hid]⟩
    case round =>
      obtain ⟨k, m, hk, rfl, rfl, ht⟩ := hrel
      by_cases hlt : k < la.length
      · have hltb : k < lb.length := by have := HL.out; omega
        obtain ⟨g, o, rfl, ca⟩ := HA.out k hlt
        obtain ⟨g', o', rfl, cb⟩ := HB.out k hltb
        obtain ⟨x, hx⟩ : ∃ x, x = la[k] := ⟨_, rfl⟩
        obtain ⟨y, hy⟩ : ∃ y, y = lb[k] := ⟨_, rfl⟩
        rw [← hx] at ca
        rw [← hy] at cb
        have HX := Lib.hid hx
        have HY := Lib.hid hy
        clear hx hy
        have a0 : w.cell? ⟨g, o + k * 7, none⟩ = some (.int .i64 x.s) := ca 0 _ rfl
        have a1 : w.cell? ⟨g, o + k * 7 + 1, none⟩ = some (.int .i64 x.v) := ca 1 _ rfl
        have a2 : w.cell? ⟨g, o + k * 7 + 2, none⟩ = some (.int .i64 x.r.c) := ca 2 _ rfl
        have a3 : w.cell? ⟨g, o + k * 7 + 3, none⟩ = some (.int .i64 x.r.n) := ca 3 _ rfl
        have a4 : w.cell? ⟨g, o + k * 7 + 4, none⟩ = some (.int .i64 x.r.o) := ca 4 _ rfl
        have a5 : w.cell? ⟨g, o + k * 7 + 5, none⟩ = some (.int .i64 x.r.x) := ca 5 _ rfl
        have a6 : w.cell? ⟨g, o + k * 7 + 6, none⟩ = some (.int .i64 x.r.y) := ca 6 _ rfl
        have b0 : w.cell? ⟨g', o' + k * 7, none⟩ = some (.int .i64 y.s) := cb 0 _ rfl
        have b1 : w.cell? ⟨g', o' + k * 7 + 1, none⟩ = some (.int .i64 y.v) := cb 1 _ rfl
        have b2 : w.cell? ⟨g', o' + k * 7 + 2, none⟩ = some (.int .i64 y.r.c) := cb 2 _ rfl
        have b3 : w.cell? ⟨g', o' + k * 7 + 3, none⟩ = some (.int .i64 y.r.n) := cb 3 _ rfl
        have b4 : w.cell? ⟨g', o' + k * 7 + 4, none⟩ = some (.int .i64 y.r.o) := cb 4 _ rfl
        have b5 : w.cell? ⟨g', o' + k * 7 + 5, none⟩ = some (.int .i64 y.r.x) := cb 5 _ rfl
        have b6 : w.cell? ⟨g', o' + k * 7 + 6, none⟩ = some (.int .i64 y.r.y) := cb 6 _ rfl
        clear ca cb
        have i0 : (0 : Int) ≤ (k : Int) := by omega
        have i1 : (k : Int) < (la.length : Int) := by omega
        have i2 : (k : Int) < (lb.length : Int) := by omega
        have hq := neqClaim x y
        rcases hxy : decide (x = y) with _ | _
        all_goals simp only [hxy] at hq
        · have HD := Lib.hid hxy
          clear hxy
          go_wp2_with (fail)
          go_quiet (fail)
          go_wp2
          go_ret
          exact ⟨ret_bool (decide_eq_false (ne_of_at hlt hltb (by rw [← HX.out, ← HY.out]; simpa using HD.out))).symm, m + nq, World.drewN_drewN ..⟩
        · have HD := Lib.hid hxy
          clear hxy
          go_wp2_with (fail)
          go_quiet (fail)
          go_wp2
          go_roundw
          case rel => exact ⟨k + 1, _, by omega, by go_num, rfl, take_step hlt hltb ht.out (by rw [← HX.out, ← HY.out]; simpa using HD.out)⟩
          case measure => simp [intOf]; omega
      · have hz : k = la.length := by omega
        have HZ := Lib.hid hz
        clear hz
        go_wp2
        go_ret
        have h1 := ht.out
        rw [HZ.out, List.take_length, HL.out, List.take_length] at h1
        exact ⟨ret_bool (decide_eq_true h1).symm, m, rfl⟩
  · have hl1 : ((la.length : Int) != (lb.length : Int)) = true := by simp; omega
    have HL := Lib.hid hl
    clear hl
    go_enter Try.func107, Try.ntmps107
    go_wp2
    go_ret
    exact ⟨ret_bool (decide_eq_false (fun e => HL.out (by rw [e]))).symm, 0, rfl⟩

end Go.Proofs.Ytephmhgjhjheaaa
