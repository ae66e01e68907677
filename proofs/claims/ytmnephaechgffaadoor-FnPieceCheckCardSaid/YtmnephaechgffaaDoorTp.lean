/- Draws: one number. -/
import Derived.Test.YtmnephaechgffaaDoorTk
import Derived.IntWalk
namespace Go.Proofs.YtmnephaechgffaaDoor
open Go.ChangeShapes Go.WideShapes Go.ChangeAt Go.RowKit
set_option linter.unusedVariables false

/-- The slice at A, wherever it lies, reads as n bytes. -/
def InB (w : World) (A : Option Addr) (n : Nat) : Prop := ∀ i, i < n → ∃ (b off : Nat) (u : Int), A = some ⟨b, off, none⟩ ∧ w.cell? ⟨b, off + i, none⟩ = some (.int .u8 u) ∧ 0 ≤ u ∧ u ≤ 255

/-- Block R is a reader of a code, at place p. -/
def RdrAt (w : World) (R : Nat) (A : Option Addr) (n c : Nat) (p : Int) : Prop := w.heap[R]? = some (.cells #[.slice A n c, .int .i64 p] 79)

theorem xor_nat (y : Nat) (hy : y ≤ 100000000) : bits BinOp.xor IntKind.i64 (y : Int) ((y : Int) / 64) = ((y ^^^ (y / 64) : Nat) : Int) := by
  have hlt : y ^^^ (y / 64) < 2 ^ 63 := Nat.xor_lt_two_pow (by omega) (by omega)
  have small : ∀ a : Nat, a < 9223372036854775808 → (BitVec.ofInt 64 (a : Int)).toNat = a := by
    intro a ha
    rw [BitVec.ofInt_natCast, BitVec.toNat_ofNat]
    exact Nat.mod_eq_of_lt (by omega)
  rw [show ((y : Int) / 64) = ((y / 64 : Nat) : Int) from by omega]
  show IntKind.i64.wrap ((BitVec.ofInt 64 (y : Int) ^^^ BitVec.ofInt 64 ((y / 64 : Nat) : Int)).toNat : Int) = _
  rw [BitVec.toNat_xor, small _ (by omega), small _ (by omega)]
  exact IntWalk.i64_in _ (by omega)

/-- What a pick leaves: a number from 0 on, below N; the reader one place on. -/
def Picked (w : World) (R : Nat) (p N : Int) (e : Ending) (w' : World) : Prop := ∃ (v : Int) (m : Nat), 0 ≤ v ∧ v < N ∧ e = .returned (.int .i64 v) ∧ w' = (w.setCell ⟨R, 1, none⟩ (.int .i64 (p + 1))).drewN m

set_option maxRecDepth 100000 in
set_option maxHeartbeats 2000000 in
theorem pick_short (w : World) (R : Nat) (A : Option Addr) (n c : Nat) (p N : Int) (hn : n ≤ 2000) (hp0 : 0 ≤ p) (hp1 : p < n) (hN : 1 ≤ N) (hN1 : N ≤ 1000) (hR : RdrAt w R A n c p) (hb : InB w A n)
    (hfar : ∀ b off, A = some ⟨b, off, none⟩ → b ≠ R) :
    Calls Tryd.prog 47 #[.pointer (some ⟨R, 0, none⟩), .int .i64 N] w fun e w' => Picked w R p N e w' := by
  obtain ⟨k, rfl⟩ := Int.eq_ofNat_of_zero_le hp0
  obtain ⟨b, off, u, rfl, hc, hu0, hu1⟩ := hb k (by omega)
  have hne := hfar b off rfl
  have q0 : w.cell? ⟨R, 0, none⟩ = some (.slice (some ⟨b, off, none⟩) n c) := by simpa using cell_of_row w R 0 _ 79 (0, 0) hR
  have q1 : w.cell? ⟨R, 1, none⟩ = some (.int .i64 (k : Int)) := by simpa using cell_of_row w R 1 _ 79 (0, 0) hR
  have f1 : w.frozen? ⟨R, 1, none⟩ = false := frozen_of_row w R 1 _ 79 hR
  have hc2 : (w.setCell ⟨R, 1, none⟩ (.int .i64 ((k : Int) + 1))).cell? ⟨b, off + k, none⟩ = some (.int .u8 u) := by
    rw [World.cell?_setCell_other _ _ _ _ (by intro e; exact hne (congrArg Addr.block e).symm)]
    exact hc
  have d0 : decide (N < 1) = false := by simp; omega
  have d1 : ((n : Int) == 0) = false := by simp; omega
  have d2 : decide (k < n) = true := by simp; omega
  clear hb hfar hR
  go_enter Tryd.func47, Tryd.ntmps47
  go_wp2
  go_light
  go_ret
  exact ⟨u % N, 0, Int.emod_nonneg _ (by omega), Int.emod_lt_of_pos _ (by omega), rfl, rfl⟩

set_option maxRecDepth 100000 in
theorem pick_none (w : World) (R : Nat) (A : Option Addr) (c : Nat) (p N : Int) (hp0 : 0 ≤ p) (hp1 : p ≤ 100000) (hN : 1 ≤ N) (hN1 : N ≤ 1000) (hR : RdrAt w R A 0 c p) :
    Calls Tryd.prog 47 #[.pointer (some ⟨R, 0, none⟩), .int .i64 N] w fun e w' => Picked w R p N e w' := by
  have q0 : w.cell? ⟨R, 0, none⟩ = some (.slice A 0 c) := by simpa using cell_of_row w R 0 _ 79 (0, 0) hR
  have q1 : w.cell? ⟨R, 1, none⟩ = some (.int .i64 p) := by simpa using cell_of_row w R 1 _ 79 (0, 0) hR
  have f1 : w.frozen? ⟨R, 1, none⟩ = false := frozen_of_row w R 1 _ 79 hR
  have d0 : decide (N < 1) = false := by simp; omega
  clear hR
  go_enter Tryd.func47, Tryd.ntmps47
  go_wp2
  go_light
  go_ret
  exact ⟨0, 0, by omega, by omega, rfl, rfl⟩

set_option maxRecDepth 100000 in
set_option maxHeartbeats 2000000 in
theorem pick_long (w : World) (R : Nat) (A : Option Addr) (n c k : Nat) (N : Int) (hn : n ≤ 2000) (hn0 : 0 < n) (hp1 : n ≤ k) (hp2 : k ≤ 100000) (hN : 1 ≤ N) (hN1 : N ≤ 1000) (hR : RdrAt w R A n c k) (hb : InB w A n)
    (hfar : ∀ b off, A = some ⟨b, off, none⟩ → b ≠ R) :
    Calls Tryd.prog 47 #[.pointer (some ⟨R, 0, none⟩), .int .i64 N] w fun e w' => Picked w R k N e w' := by
  obtain ⟨b, off, u, rfl, hcu, hu0, hu1⟩ := hb (k % n) (Nat.mod_lt _ hn0)
  obtain ⟨b', off', v, he, hcv, hv0, hv1⟩ := hb ((k * 7 + 3) % n) (Nat.mod_lt _ hn0)
  cases he
  have hne := hfar b off rfl
  have q0 : w.cell? ⟨R, 0, none⟩ = some (.slice (some ⟨b, off, none⟩) n c) := by simpa using cell_of_row w R 0 _ 79 (0, 0) hR
  have q1 : w.cell? ⟨R, 1, none⟩ = some (.int .i64 (k : Int)) := by simpa using cell_of_row w R 1 _ 79 (0, 0) hR
  have f1 : w.frozen? ⟨R, 1, none⟩ = false := frozen_of_row w R 1 _ 79 hR
  have far : ∀ {o : Nat} {x : Value}, w.cell? ⟨b, o, none⟩ = some x → (w.setCell ⟨R, 1, none⟩ (.int .i64 ((k : Int) + 1))).cell? ⟨b, o, none⟩ = some x := by
    intro o x h
    rw [World.cell?_setCell_other _ _ _ _ (by intro e; exact hne (congrArg Addr.block e).symm)]
    exact h
  replace hcu := far hcu
  replace hcv := far hcv
  have d0 : decide (N < 1) = false := by simp; omega
  have d1 : ((n : Int) == 0) = false := by simp; omega
  have d2 : decide (k < n) = false := by simp; omega
  clear hb hfar hR far
  have hnI : (0 : Int) < (n : Int) := by omega
  have hq0 : 0 ≤ (k : Int) / (n : Int) := Int.ediv_nonneg (by omega) (by omega)
  have hq1 : (k : Int) / (n : Int) ≤ (k : Int) := Int.ediv_le_self _ (by omega)
  have r0 : 0 ≤ (k : Int) % (n : Int) := Int.emod_nonneg _ (by omega)
  have r1 : (k : Int) % (n : Int) < (n : Int) := Int.emod_lt_of_pos _ hnI
  have r2 : 0 ≤ ((k : Int) * 7 + 3) % (n : Int) := Int.emod_nonneg _ (by omega)
  have r3 : ((k : Int) * 7 + 3) % (n : Int) < (n : Int) := Int.emod_lt_of_pos _ hnI
  have m1 : (k : Int).tmod (n : Int) = (k : Int) % (n : Int) := Int.tmod_eq_emod_of_nonneg (by omega)
  have m2 : ((k : Int) * 7 + 3).tmod (n : Int) = ((k : Int) * 7 + 3) % (n : Int) := Int.tmod_eq_emod_of_nonneg (by omega)
  have m3 : (k : Int).tdiv (n : Int) = (k : Int) / (n : Int) := Int.tdiv_eq_ediv_of_nonneg (by omega)
  have t1 : ((k : Int) % (n : Int)).toNat = k % n := by rw [← Int.natCast_emod, Int.toNat_natCast]
  have t2 : (((k : Int) * 7 + 3) % (n : Int)).toNat = (k * 7 + 3) % n := by
    rw [show ((k : Int) * 7 + 3) = ((k * 7 + 3 : Nat) : Int) from by omega, ← Int.natCast_emod, Int.toNat_natCast]
  have w1 : IntKind.i64.wrap ((k : Int) * 7) = (k : Int) * 7 := IntWalk.i64_in _ (by omega)
  have w2 : IntKind.i64.wrap ((k : Int) * 7 + 3) = (k : Int) * 7 + 3 := IntWalk.i64_in _ (by omega)
  have w3 : IntKind.i64.wrap u = u := IntWalk.i64_in _ (by omega)
  have w4 : IntKind.i64.wrap v = v := IntWalk.i64_in _ (by omega)
  have w5 : IntKind.i64.wrap (u * 131) = u * 131 := IntWalk.i64_in _ (by omega)
  have w6 : IntKind.i64.wrap (v * 1117) = v * 1117 := IntWalk.i64_in _ (by omega)
  have w7 : IntKind.i64.wrap (u * 131 + v * 1117) = u * 131 + v * 1117 := IntWalk.i64_in _ (by omega)
  have w8 : IntKind.i64.wrap ((k : Int) * 29) = (k : Int) * 29 := IntWalk.i64_in _ (by omega)
  have w9 : IntKind.i64.wrap (u * 131 + v * 1117 + (k : Int) * 29) = u * 131 + v * 1117 + (k : Int) * 29 := IntWalk.i64_in _ (by omega)
  have wa : IntKind.i64.wrap ((k : Int) / (n : Int)) = (k : Int) / (n : Int) := IntWalk.i64_in _ (by omega)
  have wb : IntKind.i64.wrap ((k : Int) / (n : Int) * 53) = (k : Int) / (n : Int) * 53 := IntWalk.i64_in _ (by omega)
  have wc : IntKind.i64.wrap (u * 131 + v * 1117 + (k : Int) * 29 + (k : Int) / (n : Int) * 53) = u * 131 + v * 1117 + (k : Int) * 29 + (k : Int) / (n : Int) * 53 := IntWalk.i64_in _ (by omega)
  have d3 : (n == 0) = false := by simp; omega
  go_enter Tryd.func47, Tryd.ntmps47
  go_wp2_with (fail)
  go_quiet (fail)
  have x0 : 0 ≤ u * 131 + v * 1117 + (k : Int) * 29 + (k : Int) / (n : Int) * 53 := by omega
  have x1 : u * 131 + v * 1117 + (k : Int) * 29 + (k : Int) / (n : Int) * 53 ≤ 100000000 := by omega
  clear m1 m2 m3 t1 t2 w1 w2 w3 w4 w5 w6 w7 w8 w9 wa wb wc hcu hcv
  generalize u * 131 + v * 1117 + (k : Int) * 29 + (k : Int) / (n : Int) * 53 = x at x0 x1 ⊢
  obtain ⟨y, rfl⟩ := Int.eq_ofNat_of_zero_le x0
  go_wp2
  go_light
  go_ret
  have hx := xor_nat y (by omega)
  refine ⟨((y ^^^ (y / 64) : Nat) : Int) % N, nq, Int.emod_nonneg _ (by omega), Int.emod_lt_of_pos _ (by omega), ret_int ?_, rfl⟩
  show (bits BinOp.xor IntKind.i64 (y : Int) ((y : Int) / 64)).tmod N = _
  rw [hx, Int.tmod_eq_emod_of_nonneg (by omega)]

theorem pick (w : World) (R : Nat) (A : Option Addr) (n c : Nat) (p N : Int) (hn : n ≤ 2000) (hp0 : 0 ≤ p) (hp1 : p ≤ 100000) (hN : 1 ≤ N) (hN1 : N ≤ 1000) (hR : RdrAt w R A n c p) (hb : InB w A n)
    (hfar : ∀ b off, A = some ⟨b, off, none⟩ → b ≠ R) :
    Calls Tryd.prog 47 #[.pointer (some ⟨R, 0, none⟩), .int .i64 N] w fun e w' => Picked w R p N e w' := by
  by_cases h0 : n = 0
  · subst h0
    exact pick_none w R A c p N hp0 hp1 hN hN1 hR
  by_cases h1 : p < n
  · exact pick_short w R A n c p N hn hp0 h1 hN hN1 hR hb hfar
  obtain ⟨k, rfl⟩ := Int.eq_ofNat_of_zero_le hp0
  exact pick_long w R A n c k N hn (by omega) (by omega) (by omega) hN hN1 hR hb hfar
end Go.Proofs.YtmnephaechgffaaDoor
