import Derived.Test.YtameldhdegcpoaaMC
import Derived.IntWalk
import Derived.ChangeSlices
import Derived.OpenShut
namespace Go.Proofs.Ytameldhdegcpoaa
open Go.ChangeShapes Go.WideShapes Go.ChangeAt Go.RowKit
set_option linter.unusedVariables false
def InB (w : World) (A : Option Addr) (n : Nat) : Prop := ∀ i, i < n → ∃ (b off : Nat) (u : Int), A = some ⟨b, off, none⟩ ∧ w.cell? ⟨b, off + i, none⟩ = some (.int .u8 u) ∧ 0 ≤ u ∧ u ≤ 255
def RdrAt (w : World) (R : Nat) (A : Option Addr) (n c : Nat) (p : Int) : Prop := w.heap[R]? = some (.cells #[.slice A n c, .int .i64 p] 99)
theorem xor_nat (y : Nat) (hy : y ≤ 100000000) : bits BinOp.xor IntKind.i64 (y : Int) ((y : Int) / 64) = ((y ^^^ (y / 64) : Nat) : Int) := by
 have hlt : y ^^^ (y / 64) < 2 ^ 63 := Nat.xor_lt_two_pow (by omega) (by omega)
 have small : ∀ a : Nat, a < 9223372036854775808 → (BitVec.ofInt 64 (a : Int)).toNat = a := by
  intro a ha
  rw [BitVec.ofInt_natCast, BitVec.toNat_ofNat]
  exact Nat.mod_eq_of_lt (by omega)
 rw [show ((y : Int) / 64) = ((y / 64 : Nat) : Int) from by omega]
 show IntKind.i64.wrap ((BitVec.ofInt 64 (y : Int) ^^^ BitVec.ofInt 64 ((y / 64 : Nat) : Int)).toNat : Int) = _
 rw [BitVec.toNat_xor, small _ (by omega), small _ (by omega)]
 exact IntWalk.i64_in _ (by omega)
def Picked (w : World) (R : Nat) (p N : Int) (e : Ending) (w' : World) : Prop := ∃ (v : Int) (m : Nat), 0 ≤ v ∧ v < N ∧ e = .returned (.int .i64 v) ∧ w' = (w.setCell ⟨R, 1, none⟩ (.int .i64 (p + 1))).drewN m
set_option maxRecDepth 100000 in
set_option maxHeartbeats 2000000 in
theorem pick_short (w : World) (R : Nat) (A : Option Addr) (n c : Nat) (p N : Int) (hn : n ≤ 2000) (hp0 : 0 ≤ p) (hp1 : p < n) (hN : 1 ≤ N) (hN1 : N ≤ 1000) (hR : RdrAt w R A n c p) (hb : InB w A n)
 (hfar : ∀ b off, A = some ⟨b, off, none⟩ → b ≠ R) :
 Calls Try.prog 73 #[.pointer (some ⟨R, 0, none⟩), .int .i64 N] w fun e w' => Picked w R p N e w' := by
 obtain ⟨k, rfl⟩ := Int.eq_ofNat_of_zero_le hp0
 obtain ⟨b, off, u, rfl, hc, hu0, hu1⟩ := hb k (by omega)
 have hne := hfar b off rfl
 have q0 : w.cell? ⟨R, 0, none⟩ = some (.slice (some ⟨b, off, none⟩) n c) := by simpa using cell_of_row w R 0 _ 99 (0, 0) hR
 have q1 : w.cell? ⟨R, 1, none⟩ = some (.int .i64 (k : Int)) := by simpa using cell_of_row w R 1 _ 99 (0, 0) hR
 have f1 : w.frozen? ⟨R, 1, none⟩ = false := frozen_of_row w R 1 _ 99 hR
 have hc2 : (w.setCell ⟨R, 1, none⟩ (.int .i64 ((k : Int) + 1))).cell? ⟨b, off + k, none⟩ = some (.int .u8 u) := by
  rw [World.cell?_setCell_other _ _ _ _ (by intro e; exact hne (congrArg Addr.block e).symm)]
  exact hc
 have d0 : decide (N < 1) = false := by simp; omega
 have d1 : ((n : Int) == 0) = false := by simp; omega
 have d2 : decide (k < n) = true := by simp; omega
 clear hb hfar hR
 go_enter Try.func73, Try.ntmps73
 go_wp2
 go_light
 go_ret
 exact ⟨u % N, 0, Int.emod_nonneg _ (by omega), Int.emod_lt_of_pos _ (by omega), rfl, rfl⟩
set_option maxRecDepth 100000 in
theorem pick_none (w : World) (R : Nat) (A : Option Addr) (c : Nat) (p N : Int) (hp0 : 0 ≤ p) (hp1 : p ≤ 100000) (hN : 1 ≤ N) (hN1 : N ≤ 1000) (hR : RdrAt w R A 0 c p) :
 Calls Try.prog 73 #[.pointer (some ⟨R, 0, none⟩), .int .i64 N] w fun e w' => Picked w R p N e w' := by
 have q0 : w.cell? ⟨R, 0, none⟩ = some (.slice A 0 c) := by simpa using cell_of_row w R 0 _ 99 (0, 0) hR
 have q1 : w.cell? ⟨R, 1, none⟩ = some (.int .i64 p) := by simpa using cell_of_row w R 1 _ 99 (0, 0) hR
 have f1 : w.frozen? ⟨R, 1, none⟩ = false := frozen_of_row w R 1 _ 99 hR
 have d0 : decide (N < 1) = false := by simp; omega
 clear hR
 go_enter Try.func73, Try.ntmps73
 go_wp2
 go_light
 go_ret
 exact ⟨0, 0, by omega, by omega, rfl, rfl⟩
set_option maxRecDepth 100000 in
set_option maxHeartbeats 2000000 in
theorem pick_long (w : World) (R : Nat) (A : Option Addr) (n c k : Nat) (N : Int) (hn : n ≤ 2000) (hn0 : 0 < n) (hp1 : n ≤ k) (hp2 : k ≤ 100000) (hN : 1 ≤ N) (hN1 : N ≤ 1000) (hR : RdrAt w R A n c k) (hb : InB w A n)
 (hfar : ∀ b off, A = some ⟨b, off, none⟩ → b ≠ R) :
 Calls Try.prog 73 #[.pointer (some ⟨R, 0, none⟩), .int .i64 N] w fun e w' => Picked w R k N e w' := by
 obtain ⟨b, off, u, rfl, hcu, hu0, hu1⟩ := hb (k % n) (Nat.mod_lt _ hn0)
 obtain ⟨b', off', v, he, hcv, hv0, hv1⟩ := hb ((k * 7 + 3) % n) (Nat.mod_lt _ hn0)
 cases he
 have hne := hfar b off rfl
 have q0 : w.cell? ⟨R, 0, none⟩ = some (.slice (some ⟨b, off, none⟩) n c) := by simpa using cell_of_row w R 0 _ 99 (0, 0) hR
 have q1 : w.cell? ⟨R, 1, none⟩ = some (.int .i64 (k : Int)) := by simpa using cell_of_row w R 1 _ 99 (0, 0) hR
 have f1 : w.frozen? ⟨R, 1, none⟩ = false := frozen_of_row w R 1 _ 99 hR
 have far : ∀ {o : Nat} {x : Value}, w.cell? ⟨b, o, none⟩ = some x → (w.setCell ⟨R, 1, none⟩ (.int .i64 ((k : Int) + 1))).cell? ⟨b, o, none⟩ = some x := by
  intro o x h
  rw [World.cell?_setCell_other _ _ _ _ (by intro e; exact hne (congrArg Addr.block e).symm)]
  exact h
 replace hcu := far hcu
 replace hcv := far hcv
 have d0 : decide (N < 1) = false := by simp; omega
 have d1 : ((n : Int) == 0) = false := by simp; omega
 have d2 : decide (k < n) = false := by simp; omega
 clear hb hfar hR far
 have hnI : (0 : Int) < (n : Int) := by omega
 have hq0 : 0 ≤ (k : Int) / (n : Int) := Int.ediv_nonneg (by omega) (by omega)
 have hq1 : (k : Int) / (n : Int) ≤ (k : Int) := Int.ediv_le_self _ (by omega)
 have r0 : 0 ≤ (k : Int) % (n : Int) := Int.emod_nonneg _ (by omega)
 have r1 : (k : Int) % (n : Int) < (n : Int) := Int.emod_lt_of_pos _ hnI
 have r2 : 0 ≤ ((k : Int) * 7 + 3) % (n : Int) := Int.emod_nonneg _ (by omega)
 have r3 : ((k : Int) * 7 + 3) % (n : Int) < (n : Int) := Int.emod_lt_of_pos _ hnI
 have m1 : (k : Int).tmod (n : Int) = (k : Int) % (n : Int) := Int.tmod_eq_emod_of_nonneg (by omega)
 have m2 : ((k : Int) * 7 + 3).tmod (n : Int) = ((k : Int) * 7 + 3) % (n : Int) := Int.tmod_eq_emod_of_nonneg (by omega)
 have m3 : (k : Int).tdiv (n : Int) = (k : Int) / (n : Int) := Int.tdiv_eq_ediv_of_nonneg (by omega)
 have t1 : ((k : Int) % (n : Int)).toNat = k % n := by rw [← Int.natCast_emod, Int.toNat_natCast]
 have t2 : (((k : Int) * 7 + 3) % (n : Int)).toNat = (k * 7 + 3) % n := by
  rw [show ((k : Int) * 7 + 3) = ((k * 7 + 3 : Nat) : Int) from by omega, ← Int.natCast_emod, Int.toNat_natCast]
 have w1 : IntKind.i64.wrap ((k : Int) * 7) = (k : Int) * 7 := IntWalk.i64_in _ (by omega)
 have w2 : IntKind.i64.wrap ((k : Int) * 7 + 3) = (k : Int) * 7 + 3 := IntWalk.i64_in _ (by omega)
 have w3 : IntKind.i64.wrap u = u := IntWalk.i64_in _ (by omega)
 have w4 : IntKind.i64.wrap v = v := IntWalk.i64_in _ (by omega)
 have w5 : IntKind.i64.wrap (u * 131) = u * 131 := IntWalk.i64_in _ (by omega)
 have w6 : IntKind.i64.wrap (v * 1117) = v * 1117 := IntWalk.i64_in _ (by omega)
 have w7 : IntKind.i64.wrap (u * 131 + v * 1117) = u * 131 + v * 1117 := IntWalk.i64_in _ (by omega)
 have w8 : IntKind.i64.wrap ((k : Int) * 29) = (k : Int) * 29 := IntWalk.i64_in _ (by omega)
 have w9 : IntKind.i64.wrap (u * 131 + v * 1117 + (k : Int) * 29) = u * 131 + v * 1117 + (k : Int) * 29 := IntWalk.i64_in _ (by omega)
 have wa : IntKind.i64.wrap ((k : Int) / (n : Int)) = (k : Int) / (n : Int) := IntWalk.i64_in _ (by omega)
 have wb : IntKind.i64.wrap ((k : Int) / (n : Int) * 53) = (k : Int) / (n : Int) * 53 := IntWalk.i64_in _ (by omega)
 have wc : IntKind.i64.wrap (u * 131 + v * 1117 + (k : Int) * 29 + (k : Int) / (n : Int) * 53) = u * 131 + v * 1117 + (k : Int) * 29 + (k : Int) / (n : Int) * 53 := IntWalk.i64_in _ (by omega)
 have d3 : (n == 0) = false := by simp; omega
 go_enter Try.func73, Try.ntmps73
 go_wp2_with (fail)
 go_quiet (fail)
 have x0 : 0 ≤ u * 131 + v * 1117 + (k : Int) * 29 + (k : Int) / (n : Int) * 53 := by omega
 have x1 : u * 131 + v * 1117 + (k : Int) * 29 + (k : Int) / (n : Int) * 53 ≤ 100000000 := by omega
 clear m1 m2 m3 t1 t2 w1 w2 w3 w4 w5 w6 w7 w8 w9 wa wb wc hcu hcv
 generalize u * 131 + v * 1117 + (k : Int) * 29 + (k : Int) / (n : Int) * 53 = x at x0 x1 ⊢
 obtain ⟨y, rfl⟩ := Int.eq_ofNat_of_zero_le x0
 go_wp2
 go_light
 go_ret
 have hx := xor_nat y (by omega)
 refine ⟨((y ^^^ (y / 64) : Nat) : Int) % N, nq, Int.emod_nonneg _ (by omega), Int.emod_lt_of_pos _ (by omega), ret_int ?_, rfl⟩
 show (bits BinOp.xor IntKind.i64 (y : Int) ((y : Int) / 64)).tmod N = _
 rw [hx, Int.tmod_eq_emod_of_nonneg (by omega)]
theorem pick (w : World) (R : Nat) (A : Option Addr) (n c : Nat) (p N : Int) (hn : n ≤ 2000) (hp0 : 0 ≤ p) (hp1 : p ≤ 100000) (hN : 1 ≤ N) (hN1 : N ≤ 1000) (hR : RdrAt w R A n c p) (hb : InB w A n)
 (hfar : ∀ b off, A = some ⟨b, off, none⟩ → b ≠ R) :
 Calls Try.prog 73 #[.pointer (some ⟨R, 0, none⟩), .int .i64 N] w fun e w' => Picked w R p N e w' := by
 by_cases h0 : n = 0
 · subst h0
   exact pick_none w R A c p N hp0 hp1 hN hN1 hR
 by_cases h1 : p < n
 · exact pick_short w R A n c p N hn hp0 h1 hN hN1 hR hb hfar
 obtain ⟨k, rfl⟩ := Int.eq_ofNat_of_zero_le hp0
 exact pick_long w R A n c k N hn (by omega) (by omega) (by omega) hN hN1 hR hb hfar
end Go.Proofs.Ytameldhdegcpoaa
namespace Go.Proofs.Ytameldhdegcpoaa
open Go.ChangeShapes Go.WideShapes Go.ChangeAt Go.RowKit
set_option linter.unusedVariables false
theorem in_bytes {H : Type} {enc : TypeId × Value → H} {P : Program} {w : World} {base b0 : Nat} {spare : Nat → Bool} {held : Bool} {r : Reach} {t e : TypeId} {v : Value} {d : DataW H} {p : List MemPlace}
 (ht : P.underlying t = some (.slice e)) (he : P.underlying e = some (.int .u8)) (hc : P.cellsOf e = 1) (hv : Value.okWide P w r b0 t v) (h : DataW.Trod enc P w base spare held t v d p) :
 ∃ (A : Option Addr) (n c : Nat), v = .slice A n c ∧ n ≤ maxLen ∧ n ≤ c ∧ InB w A n := by
 obtain ⟨a0, len, cap, rfl⟩ := okWide_slice ht hv
 obtain ⟨fuel, hf⟩ := h
 rcases open_ints ht he hc hf with ⟨hcs, _⟩ | ⟨a, len', cap', zs, hcs, _, hl, hm, hz, _, hcell, hwz⟩
 · simp only [Value.cells, List.cons.injEq, Value.slice.injEq] at hcs
   obtain ⟨⟨rfl, rfl, rfl⟩, _⟩ := hcs
   exact ⟨none, 0, 0, rfl, Nat.zero_le _, Nat.le_refl _, fun i hi => absurd hi (by simp)⟩
 · simp only [Value.cells, List.cons.injEq, Value.slice.injEq] at hcs
   obtain ⟨⟨rfl, rfl, rfl⟩, _⟩ := hcs
   have hzl : len ≤ zs.length := by rw [hz]; split <;> omega
   refine ⟨some a, len, cap, rfl, by omega, hl, fun i hi => ?_⟩
   have h0 := hcell 0 (by omega)
   rw [show a.add 0 = a from by simp [Addr.add]] at h0
   have ha := addr_of h0
   have hi' := hcell i (by omega)
   rw [ha, add_eq] at hi'
   have hb := range_u8 hwz i
   refine ⟨a.block, a.off, zs.getD i 0, by rw [← ha], hi', ?_, ?_⟩
   · rw [List.getD_eq_getElem?_getD]; exact hb.1
   · rw [List.getD_eq_getElem?_getD]; exact hb.2
end Go.Proofs.Ytameldhdegcpoaa
namespace Go.Proofs.Ytameldhdegcpoaa
open Go.ChangeShapes Go.WideShapes Go.ChangeAt Go.RowKit
set_option linter.unusedVariables false
structure Reader (w : World) (R : Nat) (A : Option Addr) (n c : Nat) (p : Int) : Prop where
 at_ : RdrAt w R A n c p
 bytes : InB w A n
 far : 0 < n → ∀ b off, A = some ⟨b, off, none⟩ → b ≠ R
 lo : 0 ≤ p
 len : n ≤ 2000
section
variable {w w' : World} {R : Nat} {A : Option Addr} {n c : Nat} {p : Int}
theorem Reader.lt (h : Reader w R A n c p) : R < w.heap.size := by
 have := h.at_
 unfold RdrAt at this
 rcases Nat.lt_or_ge R w.heap.size with h1 | h1
 · exact h1
 · rw [Array.getElem?_eq_none h1] at this
   cases this
theorem Reader.grown {row : Option Nat} (h : Reader w R A n c p) (hg : w.grownBy w' row) (hR : row ≠ some R) (hb : ∀ b off, A = some ⟨b, off, none⟩ → row ≠ some b) : Reader w' R A n c p :=
 ⟨(hg.block R h.lt (Ne.symm hR)).trans h.at_, fun i hi => by
  obtain ⟨b, off, u, hA, hc, hu⟩ := h.bytes i hi
  exact ⟨b, off, u, hA, hg.cell hc (Ne.symm (hb b off hA)), hu⟩, h.far, h.lo, h.len⟩
theorem Reader.below (h : Reader w R A n c p) (hb : Below w.heap.size w w') : Reader w' R A n c p := h.grown (Below.grownBy hb none) (by simp) (by simp)
theorem Reader.next (h : Reader w R A n c p) (m : Nat) : Reader ((w.setCell ⟨R, 1, none⟩ (.int .i64 (p + 1))).drewN m) R A n c (p + 1) :=
 ⟨heap_setCell_same w R 1 _ 99 _ h.at_, fun i hi => by
  obtain ⟨b, off, u, hA, hc, hu⟩ := h.bytes i hi
  exact ⟨b, off, u, hA, (grownBy_set w R 1 (.int .i64 (p + 1))).cell hc (by simpa using h.far (by omega) b off hA), hu⟩, h.far, by have := h.lo; omega, h.len⟩
theorem grownBy_drewN {row : Option Nat} (h : w.grownBy w' row) (m : Nat) : w.grownBy (w'.drewN m) row := ⟨h.os, h.tape, h.output, h.size, h.block⟩
end
def Drawn (w : World) (R : Nat) (A : Option Addr) (n c : Nat) (p K : Int) (w' : World) : Prop := ∃ q, p ≤ q ∧ q ≤ p + K ∧ Reader w' R A n c q ∧ w.grownBy w' (some R)
theorem pickR {w : World} {R : Nat} {A : Option Addr} {n c : Nat} {p : Int} (N : Int) (h : Reader w R A n c p) (hp : p ≤ 100000) (hN : 1 ≤ N) (hN1 : N ≤ 1000) :
 Calls Try.prog 73 #[.pointer (some ⟨R, 0, none⟩), .int .i64 N] w fun e w' => ∃ v : Int, 0 ≤ v ∧ v < N ∧ e = .returned (.int .i64 v) ∧ Drawn w R A n c p 1 w' :=
 ((if h0 : n = 0 then by
  subst h0
  exact pick_none w R A c p N h.lo hp hN hN1 h.at_
  else pick w R A n c p N h.len h.lo hp hN hN1 h.at_ h.bytes (h.far (by omega)) : Calls Try.prog 73 #[.pointer (some ⟨R, 0, none⟩), .int .i64 N] w fun e w' => Picked w R p N e w')).mono fun e w' ⟨v, m, h0, h1, he, hw⟩ => ⟨v, h0, h1, he, by
  subst hw
  exact ⟨p + 1, by omega, by omega, h.next m, grownBy_drewN (grownBy_set w R 1 _) m⟩⟩
theorem oneR {w : World} {R : Nat} {A : Option Addr} {n c : Nat} {p : Int} (g : Nat) (l : List Int) (h : Reader w R A n c p) (hp : p ≤ 100000) (hl : 0 < l.length) (hl1 : l.length ≤ 1000) (hg : g ≠ R)
 (hc : ∀ i (hi : i < l.length), w.cell? ⟨g, i, none⟩ = some (.int .i64 (l[i]'hi))) :
 Calls Try.prog 74 #[.pointer (some ⟨R, 0, none⟩), .slice (some ⟨g, 0, none⟩) l.length l.length] w fun e w' => ∃ v : Int, e = .returned (.int .i64 v) ∧ Drawn w R A n c p 1 w' := by
 have H := Lib.hid h
 have HC := Lib.hid hc
 clear h hc
 go_enter Try.func74, Try.ntmps74
 go_wp2_with (fail)
 refine (pickR (l.length : Int) H.out hp (by omega) (by omega)).mono ?_
 rintro e w1 ⟨v, v0, v1, rfl, hd⟩
 obtain ⟨j, rfl⟩ := Int.eq_ofNat_of_zero_le v0
 obtain ⟨q, hq0, hq1, hr, hgr⟩ := hd
 have hcell := hgr.cell (HC.out j (by omega)) (by simpa using hg)
 have HD : Hid (Drawn w R A n c p 1 w1) := ⟨q, hq0, hq1, hr, hgr⟩
 clear hr hgr
 generalize l[j] = x at hcell
 go_wp2
 go_light
 go_ret
 exact ⟨x, rfl, HD.out⟩
end Go.Proofs.Ytameldhdegcpoaa
namespace Go.Proofs.Ytameldhdegcpoaa
open Go.ChangeShapes Go.WideShapes Go.ChangeAt Go.RowKit
set_option linter.unusedVariables false
def Five (w : World) (g : Nat) (t : TypeId) (u0 u1 u2 u3 u4 : Value) : Prop := w.heap[g]? = some (.cells #[u0, u1, u2, u3, u4] t)
section
variable {w w' : World} {g : Nat} {t : TypeId} {u0 u1 u2 u3 u4 : Value}
theorem Five.lt (h : Five w g t u0 u1 u2 u3 u4) : g < w.heap.size := by
 unfold Five at h
 rcases Nat.lt_or_ge g w.heap.size with h1 | h1
 · exact h1
 · rw [Array.getElem?_eq_none h1] at h
   cases h
theorem Five.cells (h : Five w g t u0 u1 u2 u3 u4) : w.cell? ⟨g, 0, none⟩ = some u0 ∧ w.cell? ⟨g, 1, none⟩ = some u1 ∧ w.cell? ⟨g, 2, none⟩ = some u2 ∧ w.cell? ⟨g, 3, none⟩ = some u3 ∧ w.cell? ⟨g, 4, none⟩ = some u4 := by
 have k := fun j => cell_of_row w g j _ t (0, 0) h
 exact ⟨by simpa using k 0, by simpa using k 1, by simpa using k 2, by simpa using k 3, by simpa using k 4⟩
theorem Five.frozen (h : Five w g t u0 u1 u2 u3 u4) (j : Nat) : w.frozen? ⟨g, j, none⟩ = false := frozen_of_row w g j _ t h
theorem Five.new (w : World) : Five (w.alloc (.cells #[u0, u1, u2, u3, u4] t)) w.heap.size t u0 u1 u2 u3 u4 := heap_alloc_new w _
theorem Five.grown {row : Option Nat} (h : Five w g t u0 u1 u2 u3 u4) (hb : w.grownBy w' row) (hg : some g ≠ row) : Five w' g t u0 u1 u2 u3 u4 := (hb.block g h.lt hg).trans h
theorem Five.alloc (h : Five w g t u0 u1 u2 u3 u4) (o : Obj) : Five (w.alloc o) g t u0 u1 u2 u3 u4 := h.grown (World.grownBy_alloc w o none) (by simp)
theorem Five.set0 (h : Five w g t u0 u1 u2 u3 u4) (v : Value) : Five (w.setCell ⟨g, 0, none⟩ v) g t v u1 u2 u3 u4 := heap_setCell_same w g 0 _ t v h
theorem Five.set1 (h : Five w g t u0 u1 u2 u3 u4) (v : Value) : Five (w.setCell ⟨g, 1, none⟩ v) g t u0 v u2 u3 u4 := heap_setCell_same w g 1 _ t v h
theorem Five.set2 (h : Five w g t u0 u1 u2 u3 u4) (v : Value) : Five (w.setCell ⟨g, 2, none⟩ v) g t u0 u1 v u3 u4 := heap_setCell_same w g 2 _ t v h
theorem Five.set3 (h : Five w g t u0 u1 u2 u3 u4) (v : Value) : Five (w.setCell ⟨g, 3, none⟩ v) g t u0 u1 u2 v u4 := heap_setCell_same w g 3 _ t v h
theorem Five.set4 (h : Five w g t u0 u1 u2 u3 u4) (v : Value) : Five (w.setCell ⟨g, 4, none⟩ v) g t u0 u1 u2 u3 v := heap_setCell_same w g 4 _ t v h
end
theorem grown_new {a b c : World} {R x : Nat} (h : a.grownBy b (some R)) (k : b.grownBy c (some x)) (hx : a.heap.size ≤ x) : a.grownBy c (some R) :=
 ⟨k.os.trans h.os, k.tape.trans h.tape, k.output.trans h.output, Nat.le_trans h.size k.size, fun i hi hr => (k.block i (Nat.lt_of_lt_of_le hi h.size) (by simp; omega)).trans (h.block i hi hr)⟩
theorem Reader.set {w : World} {R : Nat} {A : Option Addr} {n c : Nat} {p : Int} (h : Reader w R A n c p) (B x j : Nat) (v : Value) (hB : ∀ b off, A = some ⟨b, off, none⟩ → 0 < n → b < B) (hR : R < B) (hx : B ≤ x) : Reader (w.setCell ⟨x, j, none⟩ v) R A n c p := by
 refine ⟨(heap_setCell_other w ⟨x, j, none⟩ R v (by simp; omega)).trans h.at_, fun i hi => ?_, h.far, h.lo, h.len⟩
 obtain ⟨b, off, u, hA, hc, hu⟩ := h.bytes i hi
 have hb := hB b off hA (by omega)
 exact ⟨b, off, u, hA, (grownBy_set w x j v).cell hc (by simp; omega), hu⟩
theorem Reader.old {w : World} {R : Nat} {A : Option Addr} {n c : Nat} {p : Int} (h : Reader w R A n c p) : ∀ b off, A = some ⟨b, off, none⟩ → 0 < n → b < w.heap.size := by
 intro b off hA h0
 obtain ⟨b', off', u, hA', hc, _⟩ := h.bytes 0 h0
 rw [hA] at hA'
 cases hA'
 exact World.block_lt_of_cell? w _ hc
theorem Drawn.alloc {w w' : World} {R : Nat} {A : Option Addr} {n c : Nat} {p K : Int} (h : Drawn w R A n c p K w') (o : Obj) : Drawn w R A n c p K (w'.alloc o) := by
 obtain ⟨q, h0, h1, hr, hg⟩ := h
 exact ⟨q, h0, h1, hr.below ((Below.refl _ _).alloc (Nat.le_refl _) o), grownBy_trans hg (World.grownBy_alloc _ _ _)⟩
theorem back5 {w W : World} {R : Nat} {A : Option Addr} {n c : Nat} {p K q : Int} (u0 u1 u2 u3 u4 : Value) (hq0 : p ≤ q) (hq1 : q ≤ p + K) (hr : Reader W R A n c q) (hg : w.grownBy W (some R)) (hOld : ∀ b off, A = some ⟨b, off, none⟩ → 0 < n → b < w.heap.size) (hR : R < w.heap.size) :
 Drawn w R A n c p K (((((W.setCell ⟨w.heap.size, 0, none⟩ u0).setCell ⟨w.heap.size, 1, none⟩ u1).setCell ⟨w.heap.size, 2, none⟩ u2).setCell ⟨w.heap.size, 3, none⟩ u3).setCell ⟨w.heap.size, 4, none⟩ u4) := by
 refine ⟨q, hq0, hq1, ?_, ?_⟩
 · exact ((((hr.set w.heap.size _ 0 u0 hOld hR (Nat.le_refl _)).set w.heap.size _ 1 u1 hOld hR (Nat.le_refl _)).set w.heap.size _ 2 u2 hOld hR (Nat.le_refl _)).set w.heap.size _ 3 u3 hOld hR (Nat.le_refl _)).set w.heap.size _ 4 u4 hOld hR (Nat.le_refl _)
 · exact grown_new (grown_new (grown_new (grown_new (grown_new hg (grownBy_set _ _ 0 u0) (Nat.le_refl _)) (grownBy_set _ _ 1 u1) (Nat.le_refl _)) (grownBy_set _ _ 2 u2) (Nat.le_refl _)) (grownBy_set _ _ 3 u3) (Nat.le_refl _)) (grownBy_set _ _ 4 u4) (Nat.le_refl _)
set_option maxRecDepth 100000 in
set_option maxHeartbeats 4000000 in
theorem l20ReqK {w : World} {R : Nat} {A : Option Addr} {n c : Nat} {p : Int} (h : Reader w R A n c p) (hp : p ≤ 99000) :
 Calls Try.prog 90 #[.pointer (some ⟨R, 0, none⟩)] w fun e w' => ∃ a b o x y : Int, e = .returned (req a b o x y) ∧ (reqB a b o x y = true ∧ a ≤ 3) ∧ Drawn w R A n c p 5 w' := by
 have hOld := Lib.hid h.old
 have hRlt := h.lt
 have RD := Lib.hid (h.below ((Below.refl w.heap.size w).alloc (Nat.le_refl _) (.cells #[.int .i64 0, .int .i64 0, .int .i64 0, .int .i64 0, .int .i64 0] 49)))
 have GR := Lib.hid (World.grownBy_alloc w (.cells #[.int .i64 0, .int .i64 0, .int .i64 0, .int .i64 0, .int .i64 0] 49) (some R))
 have FS := Lib.hid (Five.new (u0 := .int .i64 0) (u1 := .int .i64 0) (u2 := .int .i64 0) (u3 := .int .i64 0) (u4 := .int .i64 0) (t := 49) w)
 have hlo := h.lo
 have hsR : w.heap.size ≠ R := by omega
 clear h
 go_enter Try.func90, Try.ntmps90
 go_wp2_with (fail)
 refine (pickR 3 RD.out (by omega) (by omega) (by omega)).mono ?_
 rintro e Wa ⟨a, a0, a1, rfl, qa, qa0, qa1, hr, hgr⟩
 have RD := Lib.hid hr
 have GR := Lib.hid (grownBy_trans GR.out hgr)
 have FS := Lib.hid (FS.out.grown hgr (by simpa using hsR))
 clear hr hgr
 go_wp2_with (fail)
 refine (pickR 6 RD.out (by omega) (by omega) (by omega)).mono ?_
 rintro e Wb ⟨b, b0, b1, rfl, qb, qb0, qb1, hr, hgr⟩
 have RD := Lib.hid hr
 have GR := Lib.hid (grownBy_trans GR.out hgr)
 have FS := Lib.hid (FS.out.grown hgr (by simpa using hsR))
 clear hr hgr
 go_wp2_with (fail)
 refine (pickR 5 RD.out (by omega) (by omega) (by omega)).mono ?_
 rintro e Wd ⟨d, d0, d1, rfl, qd, qd0, qd1, hr, hgr⟩
 have RD := Lib.hid hr
 have GR := Lib.hid (grownBy_trans GR.out hgr)
 have FS := Lib.hid (FS.out.grown hgr (by simpa using hsR))
 clear hr hgr
 have hWd : w.heap.size < Wd.heap.size := FS.out.lt
 have hxR : Wd.heap.size ≠ R := by omega
 by_cases h2 : d = 1
 · subst h2
   have RD := Lib.hid (RD.out.below ((Below.refl Wd.heap.size Wd).alloc (Nat.le_refl _) (.cells #[.int .i64 (1 + a), .int .i64 (1 + b), .int .i64 2, .int .i64 0, .int .i64 0] 49)))
   have GR := Lib.hid (grownBy_trans GR.out (World.grownBy_alloc Wd (.cells #[.int .i64 (1 + a), .int .i64 (1 + b), .int .i64 2, .int .i64 0, .int .i64 0] 49) (some R)))
   have FS := Lib.hid (FS.out.alloc (.cells #[.int .i64 (1 + a), .int .i64 (1 + b), .int .i64 2, .int .i64 0, .int .i64 0] 49))
   have FX := Lib.hid (Five.new (u0 := .int .i64 (1 + a)) (u1 := .int .i64 (1 + b)) (u2 := .int .i64 2) (u3 := .int .i64 0) (u4 := .int .i64 0) (t := 49) Wd)
   go_wp2_with (fail)
   refine (pickR 3 RD.out (by omega) (by omega) (by omega)).mono ?_
   rintro e Ws ⟨s, s0, s1, rfl, qs, qs0, qs1, hr, hgr⟩
   have RD := Lib.hid hr
   have GR := Lib.hid (grownBy_trans GR.out hgr)
   have FS := Lib.hid (FS.out.grown hgr (by simpa using hsR))
   have FX := Lib.hid (FX.out.grown hgr (by simpa using hxR))
   obtain ⟨x0, x1, x2, x3, x4⟩ := FX.out.cells
   have xf := FX.out.frozen
   clear hr hgr
   go_wp2_with (fail)
   have RD := Lib.hid (RD.out.set w.heap.size Wd.heap.size 3 (.int .i64 (s - 1)) hOld.out hRlt (by omega))
   have GR := Lib.hid (grown_new GR.out (grownBy_set Ws Wd.heap.size 3 (.int .i64 (s - 1))) (by omega))
   have FS := Lib.hid (FS.out.grown (grownBy_set Ws Wd.heap.size 3 (.int .i64 (s - 1))) (by simp; omega))
   have FX := Lib.hid (FX.out.set3 (.int .i64 (s - 1)))
   clear x0 x1 x2 x3 x4 xf
   refine (pickR 3 RD.out (by omega) (by omega) (by omega)).mono ?_
   rintro e Wt ⟨t, t0, t1, rfl, qt, qt0, qt1, hr, hgr⟩
   have RD := Lib.hid hr
   have GR := Lib.hid (grownBy_trans GR.out hgr)
   have FS := Lib.hid (FS.out.grown hgr (by simpa using hsR))
   have FX := Lib.hid (FX.out.grown hgr (by simpa using hxR))
   obtain ⟨x0, x1, x2, x3, x4⟩ := FX.out.cells
   have xf := FX.out.frozen
   clear hr hgr
   obtain ⟨s0, s1, s2, s3, s4⟩ := FS.out.cells
   have sf := FS.out.frozen
   go_wp2
   go_light
   refine bodyPost_ret (v := req (1 + a) (1 + b) 2 (s - 1) (t - 1)) (by simp [results, Try.results90, go_sem, s0, s1, s2, s3, s4]) rfl ⟨_, _, _, _, _, rfl, ⟨by first | (simp [reqB, shapeB, inB]; omega) | (have hs : shapeB (1 + d) 0 0 = true := (by simp only [shapeB]; rw [if_pos (by omega)]; rfl); simp [reqB, hs, inB]; omega), by omega⟩, ?_⟩
   exact back5 _ _ _ _ _ (by omega) (by omega) (RD.out.set w.heap.size Wd.heap.size 4 (.int .i64 (t - 1)) hOld.out hRlt (by omega)) (grown_new GR.out (grownBy_set Wt Wd.heap.size 4 (.int .i64 (t - 1))) (by omega)) hOld.out hRlt
 by_cases h4 : d = 3
 · subst h4
   have RD := Lib.hid (RD.out.below ((Below.refl Wd.heap.size Wd).alloc (Nat.le_refl _) (.cells #[.int .i64 (1 + a), .int .i64 (1 + b), .int .i64 4, .int .i64 0, .int .i64 0] 49)))
   have GR := Lib.hid (grownBy_trans GR.out (World.grownBy_alloc Wd (.cells #[.int .i64 (1 + a), .int .i64 (1 + b), .int .i64 4, .int .i64 0, .int .i64 0] 49) (some R)))
   have FS := Lib.hid (FS.out.alloc (.cells #[.int .i64 (1 + a), .int .i64 (1 + b), .int .i64 4, .int .i64 0, .int .i64 0] 49))
   have FX := Lib.hid (Five.new (u0 := .int .i64 (1 + a)) (u1 := .int .i64 (1 + b)) (u2 := .int .i64 4) (u3 := .int .i64 0) (u4 := .int .i64 0) (t := 49) Wd)
   go_wp2_with (fail)
   refine (pickR 3 RD.out (by omega) (by omega) (by omega)).mono ?_
   rintro e Ws ⟨s, s0, s1, rfl, qs, qs0, qs1, hr, hgr⟩
   have RD := Lib.hid hr
   have GR := Lib.hid (grownBy_trans GR.out hgr)
   have FS := Lib.hid (FS.out.grown hgr (by simpa using hsR))
   have FX := Lib.hid (FX.out.grown hgr (by simpa using hxR))
   obtain ⟨x0, x1, x2, x3, x4⟩ := FX.out.cells
   have xf := FX.out.frozen
   clear hr hgr
   obtain ⟨s0, s1, s2, s3, s4⟩ := FS.out.cells
   have sf := FS.out.frozen
   go_wp2
   go_light
   refine bodyPost_ret (v := req (1 + a) (1 + b) 4 (1 + s) 0) (by simp [results, Try.results90, go_sem, s0, s1, s2, s3, s4]) rfl ⟨_, _, _, _, _, rfl, ⟨by first | (simp [reqB, shapeB, inB]; omega) | (have hs : shapeB (1 + d) 0 0 = true := (by simp only [shapeB]; rw [if_pos (by omega)]; rfl); simp [reqB, hs, inB]; omega), by omega⟩, ?_⟩
   exact back5 _ _ _ _ _ (by omega) (by omega) (RD.out.set w.heap.size Wd.heap.size 3 (.int .i64 (1 + s)) hOld.out hRlt (by omega)) (grown_new GR.out (grownBy_set Ws Wd.heap.size 3 (.int .i64 (1 + s))) (by omega)) hOld.out hRlt
 by_cases h5 : d = 4
 · subst h5
   have RD := Lib.hid (RD.out.below ((Below.refl Wd.heap.size Wd).alloc (Nat.le_refl _) (.cells #[.int .i64 (1 + a), .int .i64 (1 + b), .int .i64 5, .int .i64 0, .int .i64 0] 49)))
   have GR := Lib.hid (grownBy_trans GR.out (World.grownBy_alloc Wd (.cells #[.int .i64 (1 + a), .int .i64 (1 + b), .int .i64 5, .int .i64 0, .int .i64 0] 49) (some R)))
   have FS := Lib.hid (FS.out.alloc (.cells #[.int .i64 (1 + a), .int .i64 (1 + b), .int .i64 5, .int .i64 0, .int .i64 0] 49))
   have FX := Lib.hid (Five.new (u0 := .int .i64 (1 + a)) (u1 := .int .i64 (1 + b)) (u2 := .int .i64 5) (u3 := .int .i64 0) (u4 := .int .i64 0) (t := 49) Wd)
   go_wp2_with (fail)
   refine (pickR 3 RD.out (by omega) (by omega) (by omega)).mono ?_
   rintro e Ws ⟨s, s0, s1, rfl, qs, qs0, qs1, hr, hgr⟩
   have RD := Lib.hid hr
   have GR := Lib.hid (grownBy_trans GR.out hgr)
   have FS := Lib.hid (FS.out.grown hgr (by simpa using hsR))
   have FX := Lib.hid (FX.out.grown hgr (by simpa using hxR))
   obtain ⟨x0, x1, x2, x3, x4⟩ := FX.out.cells
   have xf := FX.out.frozen
   clear hr hgr
   go_wp2_with (fail)
   have RD := Lib.hid (RD.out.set w.heap.size Wd.heap.size 3 (.int .i64 (1 + s)) hOld.out hRlt (by omega))
   have GR := Lib.hid (grown_new GR.out (grownBy_set Ws Wd.heap.size 3 (.int .i64 (1 + s))) (by omega))
   have FS := Lib.hid (FS.out.grown (grownBy_set Ws Wd.heap.size 3 (.int .i64 (1 + s))) (by simp; omega))
   have FX := Lib.hid (FX.out.set3 (.int .i64 (1 + s)))
   clear x0 x1 x2 x3 x4 xf
   refine (pickR 3 RD.out (by omega) (by omega) (by omega)).mono ?_
   rintro e Wt ⟨t, t0, t1, rfl, qt, qt0, qt1, hr, hgr⟩
   have RD := Lib.hid hr
   have GR := Lib.hid (grownBy_trans GR.out hgr)
   have FS := Lib.hid (FS.out.grown hgr (by simpa using hsR))
   have FX := Lib.hid (FX.out.grown hgr (by simpa using hxR))
   obtain ⟨x0, x1, x2, x3, x4⟩ := FX.out.cells
   have xf := FX.out.frozen
   clear hr hgr
   obtain ⟨s0, s1, s2, s3, s4⟩ := FS.out.cells
   have sf := FS.out.frozen
   go_wp2
   go_light
   refine bodyPost_ret (v := req (1 + a) (1 + b) 5 (1 + s) (1 + t)) (by simp [results, Try.results90, go_sem, s0, s1, s2, s3, s4]) rfl ⟨_, _, _, _, _, rfl, ⟨by first | (simp [reqB, shapeB, inB]; omega) | (have hs : shapeB (1 + d) 0 0 = true := (by simp only [shapeB]; rw [if_pos (by omega)]; rfl); simp [reqB, hs, inB]; omega), by omega⟩, ?_⟩
   exact back5 _ _ _ _ _ (by omega) (by omega) (RD.out.set w.heap.size Wd.heap.size 4 (.int .i64 (1 + t)) hOld.out hRlt (by omega)) (grown_new GR.out (grownBy_set Wt Wd.heap.size 4 (.int .i64 (1 + t))) (by omega)) hOld.out hRlt
 have e2 : ((1 : Int) + d == 2) = false := by simp; omega
 have e4 : ((1 : Int) + d == 4) = false := by simp; omega
 have e5 : ((1 : Int) + d == 5) = false := by simp; omega
 obtain ⟨s0, s1, s2, s3, s4⟩ := FS.out.cells
 have sf := FS.out.frozen
 go_wp2
 go_light
 have FT := ((((((FS.out.set0 (.int .i64 (1 + a))).set1 (.int .i64 (1 + b))).set2 (.int .i64 (1 + d))).set3 (.int .i64 0)).set4 (.int .i64 0)).alloc (.cells #[.int .i64 (1 + a), .int .i64 (1 + b), .int .i64 (1 + d), .int .i64 0, .int .i64 0] 49))
 obtain ⟨g0, g1, g2, g3, g4⟩ := FT.cells
 refine bodyPost_ret (v := req (1 + a) (1 + b) (1 + d) 0 0) (by simp [results, Try.results90, go_sem, g0, g1, g2, g3, g4]) rfl ⟨_, _, _, _, _, rfl, ⟨by first | (simp [reqB, shapeB, inB]; omega) | (have hs : shapeB (1 + d) 0 0 = true := (by simp only [shapeB]; rw [if_pos (by omega)]; rfl); simp [reqB, hs, inB]; omega), by omega⟩, ?_⟩
 exact Drawn.alloc (back5 _ _ _ _ _ (by omega) (by omega) RD.out GR.out hOld.out hRlt) _
theorem l20Req {w : World} {R : Nat} {A : Option Addr} {n c : Nat} {p : Int} (h : Reader w R A n c p) (hp : p ≤ 99000) :
 Calls Try.prog 90 #[.pointer (some ⟨R, 0, none⟩)] w fun e w' => ∃ a b o x y : Int, e = .returned (req a b o x y) ∧ Drawn w R A n c p 5 w' := (l20ReqK h hp).mono fun e w' ⟨a, b, o, x, y, h1, _, h2⟩ => ⟨a, b, o, x, y, h1, h2⟩
end Go.Proofs.Ytameldhdegcpoaa
namespace Go.Proofs.Ytameldhdegcpoaa
open Go.ChangeShapes Go.WideShapes Go.ChangeAt Go.RowKit
set_option linter.unusedVariables false
theorem l20AnyReq {w : World} {R : Nat} {A : Option Addr} {n c : Nat} {p : Int} (h : Reader w R A n c p) (hp : p ≤ 90000) :
 Calls Try.prog 62 #[.pointer (some ⟨R, 0, none⟩)] w fun e w' => ∃ a b o x y : Int, e = .returned (req a b o x y) ∧ Drawn w R A n c p 7 w' := by
 have hOld := Lib.hid h.old
 have hRlt := h.lt
 have RD := Lib.hid (h.below ((Below.refl w.heap.size w).alloc (Nat.le_refl _) (.cells #[.int .i64 0, .int .i64 0, .int .i64 0, .int .i64 0, .int .i64 0] 49)))
 have GR := Lib.hid (World.grownBy_alloc w (.cells #[.int .i64 0, .int .i64 0, .int .i64 0, .int .i64 0, .int .i64 0] 49) (some R))
 have FS := Lib.hid (Five.new (u0 := .int .i64 0) (u1 := .int .i64 0) (u2 := .int .i64 0) (u3 := .int .i64 0) (u4 := .int .i64 0) (t := 49) w)
 have hlo := h.lo
 have hsR : w.heap.size ≠ R := by omega
 clear h
 go_enter Try.func62, Try.ntmps62
 go_wp2_with (fail)
 refine (l20Req RD.out (by omega)).mono ?_
 rintro e Wa ⟨a, b, o, x, y, rfl, qa, qa0, qa1, hr, hgr⟩
 have RD := Lib.hid hr
 have GR := Lib.hid (grownBy_trans GR.out hgr)
 have FS := Lib.hid (FS.out.grown hgr (by simpa using hsR))
 have hWa := FS.out.lt
 clear hr hgr
 obtain ⟨s0, s1, s2, s3, s4⟩ := FS.out.cells
 have sf := FS.out.frozen
 go_wp2_with (fail)
 clear s0 s1 s2 s3 s4 sf
 have hWa0 := hWa
 have RD := Lib.hid (RD.out.below ((Below.refl Wa.heap.size Wa).alloc (Nat.le_refl _) (.cells #[.int .i64 a, .int .i64 b, .int .i64 o, .int .i64 x, .int .i64 y] 49)))
 have GR := Lib.hid (grownBy_trans GR.out (World.grownBy_alloc Wa (.cells #[.int .i64 a, .int .i64 b, .int .i64 o, .int .i64 x, .int .i64 y] 49) (some R)))
 have FS := Lib.hid (FS.out.alloc (.cells #[.int .i64 a, .int .i64 b, .int .i64 o, .int .i64 x, .int .i64 y] 49))
 have FX := Lib.hid (Five.new (u0 := .int .i64 a) (u1 := .int .i64 b) (u2 := .int .i64 o) (u3 := .int .i64 x) (u4 := .int .i64 y) (t := 49) Wa)
 have hWa1 : w.heap.size < Wa.heap.size := by simpa using hWa0
 have hxR : Wa.heap.size ≠ R := by omega
 refine (pickR 12 RD.out (by omega) (by omega) (by omega)).mono ?_
 rintro e Wd ⟨d, d0, d1, rfl, qd, qd0, qd1, hr, hgr⟩
 have RD := Lib.hid hr
 have GR := Lib.hid (grownBy_trans GR.out hgr)
 have FS := Lib.hid (FS.out.grown hgr (by simpa using hsR))
 have FX := Lib.hid (FX.out.grown hgr (by simpa using hxR))
 have hWd := FS.out.lt
 clear hr hgr
 by_cases h0 : d = 0
 · subst h0
   obtain ⟨s0, s1, s2, s3, s4⟩ := FS.out.cells
   have sf := FS.out.frozen
   go_wp2
   go_light
   refine bodyPost_ret (v := req 0 0 0 0 0) (by simp [results, Try.results62, go_sem, s0, s1, s2, s3, s4]) rfl ⟨_, _, _, _, _, rfl, ?_⟩
   exact back5 _ _ _ _ _ (by omega) (by omega) RD.out GR.out hOld.out hRlt
 by_cases h1 : d = 1
 · subst h1
   have HC : ∀ i (hi : i < ([0, 5, 4] : List Int).length), (Wd.alloc (.cells #[.int .i64 0, .int .i64 5, .int .i64 4] 3)).cell? ⟨Wd.heap.size, i, none⟩ = some (.int .i64 (([0, 5, 4] : List Int)[i]'hi)) := by
    intro i hi
    rw [cell_of_row _ _ i _ 3 (0, 0) (heap_alloc_new Wd (.cells #[.int .i64 0, .int .i64 5, .int .i64 4] 3))]
    rcases i with _ | _ | _ | i
    · simp
    · simp
    · simp
    · simp only [List.length] at hi
      omega
   have HC := Lib.hid HC
   have RD := Lib.hid (RD.out.below ((Below.refl Wd.heap.size Wd).alloc (Nat.le_refl _) (.cells #[.int .i64 0, .int .i64 5, .int .i64 4] 3)))
   have GR := Lib.hid (grownBy_trans GR.out (World.grownBy_alloc Wd (.cells #[.int .i64 0, .int .i64 5, .int .i64 4] 3) (some R)))
   have FS := Lib.hid (FS.out.alloc (.cells #[.int .i64 0, .int .i64 5, .int .i64 4] 3))
   have FX := Lib.hid (FX.out.alloc (.cells #[.int .i64 0, .int .i64 5, .int .i64 4] 3))
   go_wp2_with (fail)
   refine (oneR Wd.heap.size [0, 5, 4] RD.out (by omega) (by simp) (by simp) (by omega) HC.out).mono ?_
   rintro e Ws ⟨s, rfl, qs, qs0, qs1, hr, hgr⟩
   have RD := Lib.hid hr
   have GR := Lib.hid (grownBy_trans GR.out hgr)
   have FS := Lib.hid (FS.out.grown hgr (by simpa using hsR))
   have FX := Lib.hid (FX.out.grown hgr (by simpa using hxR))
   obtain ⟨x0, x1, x2, x3, x4⟩ := FX.out.cells
   have xf := FX.out.frozen
   clear hr hgr
   obtain ⟨s0, s1, s2, s3, s4⟩ := FS.out.cells
   have sf := FS.out.frozen
   go_wp2
   go_light
   refine bodyPost_ret (v := req s b o x y) (by simp [results, Try.results62, go_sem, s0, s1, s2, s3, s4]) rfl ⟨_, _, _, _, _, rfl, ?_⟩
   exact back5 _ _ _ _ _ (by omega) (by omega) (RD.out.set w.heap.size Wa.heap.size 0 (.int .i64 s) hOld.out hRlt (by omega)) (grown_new GR.out (grownBy_set Ws Wa.heap.size 0 (.int .i64 s)) (by omega)) hOld.out hRlt
 by_cases h2 : d = 2
 · subst h2
   have HC : ∀ i (hi : i < ([0, 31, 30] : List Int).length), (Wd.alloc (.cells #[.int .i64 0, .int .i64 31, .int .i64 30] 3)).cell? ⟨Wd.heap.size, i, none⟩ = some (.int .i64 (([0, 31, 30] : List Int)[i]'hi)) := by
    intro i hi
    rw [cell_of_row _ _ i _ 3 (0, 0) (heap_alloc_new Wd (.cells #[.int .i64 0, .int .i64 31, .int .i64 30] 3))]
    rcases i with _ | _ | _ | i
    · simp
    · simp
    · simp
    · simp only [List.length] at hi
      omega
   have HC := Lib.hid HC
   have RD := Lib.hid (RD.out.below ((Below.refl Wd.heap.size Wd).alloc (Nat.le_refl _) (.cells #[.int .i64 0, .int .i64 31, .int .i64 30] 3)))
   have GR := Lib.hid (grownBy_trans GR.out (World.grownBy_alloc Wd (.cells #[.int .i64 0, .int .i64 31, .int .i64 30] 3) (some R)))
   have FS := Lib.hid (FS.out.alloc (.cells #[.int .i64 0, .int .i64 31, .int .i64 30] 3))
   have FX := Lib.hid (FX.out.alloc (.cells #[.int .i64 0, .int .i64 31, .int .i64 30] 3))
   go_wp2_with (fail)
   refine (oneR Wd.heap.size [0, 31, 30] RD.out (by omega) (by simp) (by simp) (by omega) HC.out).mono ?_
   rintro e Ws ⟨s, rfl, qs, qs0, qs1, hr, hgr⟩
   have RD := Lib.hid hr
   have GR := Lib.hid (grownBy_trans GR.out hgr)
   have FS := Lib.hid (FS.out.grown hgr (by simpa using hsR))
   have FX := Lib.hid (FX.out.grown hgr (by simpa using hxR))
   obtain ⟨x0, x1, x2, x3, x4⟩ := FX.out.cells
   have xf := FX.out.frozen
   clear hr hgr
   obtain ⟨s0, s1, s2, s3, s4⟩ := FS.out.cells
   have sf := FS.out.frozen
   go_wp2
   go_light
   refine bodyPost_ret (v := req a s o x y) (by simp [results, Try.results62, go_sem, s0, s1, s2, s3, s4]) rfl ⟨_, _, _, _, _, rfl, ?_⟩
   exact back5 _ _ _ _ _ (by omega) (by omega) (RD.out.set w.heap.size Wa.heap.size 1 (.int .i64 s) hOld.out hRlt (by omega)) (grown_new GR.out (grownBy_set Ws Wa.heap.size 1 (.int .i64 s)) (by omega)) hOld.out hRlt
 by_cases h3 : d = 3
 · subst h3
   have HC : ∀ i (hi : i < ([0, 6] : List Int).length), (Wd.alloc (.cells #[.int .i64 0, .int .i64 6] 3)).cell? ⟨Wd.heap.size, i, none⟩ = some (.int .i64 (([0, 6] : List Int)[i]'hi)) := by
    intro i hi
    rw [cell_of_row _ _ i _ 3 (0, 0) (heap_alloc_new Wd (.cells #[.int .i64 0, .int .i64 6] 3))]
    rcases i with _ | _ | i
    · simp
    · simp
    · simp only [List.length] at hi
      omega
   have HC := Lib.hid HC
   have RD := Lib.hid (RD.out.below ((Below.refl Wd.heap.size Wd).alloc (Nat.le_refl _) (.cells #[.int .i64 0, .int .i64 6] 3)))
   have GR := Lib.hid (grownBy_trans GR.out (World.grownBy_alloc Wd (.cells #[.int .i64 0, .int .i64 6] 3) (some R)))
   have FS := Lib.hid (FS.out.alloc (.cells #[.int .i64 0, .int .i64 6] 3))
   have FX := Lib.hid (FX.out.alloc (.cells #[.int .i64 0, .int .i64 6] 3))
   go_wp2_with (fail)
   refine (oneR Wd.heap.size [0, 6] RD.out (by omega) (by simp) (by simp) (by omega) HC.out).mono ?_
   rintro e Ws ⟨s, rfl, qs, qs0, qs1, hr, hgr⟩
   have RD := Lib.hid hr
   have GR := Lib.hid (grownBy_trans GR.out hgr)
   have FS := Lib.hid (FS.out.grown hgr (by simpa using hsR))
   have FX := Lib.hid (FX.out.grown hgr (by simpa using hxR))
   obtain ⟨x0, x1, x2, x3, x4⟩ := FX.out.cells
   have xf := FX.out.frozen
   clear hr hgr
   obtain ⟨s0, s1, s2, s3, s4⟩ := FS.out.cells
   have sf := FS.out.frozen
   go_wp2
   go_light
   refine bodyPost_ret (v := req a b s x y) (by simp [results, Try.results62, go_sem, s0, s1, s2, s3, s4]) rfl ⟨_, _, _, _, _, rfl, ?_⟩
   exact back5 _ _ _ _ _ (by omega) (by omega) (RD.out.set w.heap.size Wa.heap.size 2 (.int .i64 s) hOld.out hRlt (by omega)) (grown_new GR.out (grownBy_set Ws Wa.heap.size 2 (.int .i64 s)) (by omega)) hOld.out hRlt
 by_cases h4 : d = 4
 · subst h4
   have HC : ∀ i (hi : i < ([-2, 2, 5] : List Int).length), (Wd.alloc (.cells #[.int .i64 (-2), .int .i64 2, .int .i64 5] 3)).cell? ⟨Wd.heap.size, i, none⟩ = some (.int .i64 (([-2, 2, 5] : List Int)[i]'hi)) := by
    intro i hi
    rw [cell_of_row _ _ i _ 3 (0, 0) (heap_alloc_new Wd (.cells #[.int .i64 (-2), .int .i64 2, .int .i64 5] 3))]
    rcases i with _ | _ | _ | i
    · simp
    · simp
    · simp
    · simp only [List.length] at hi
      omega
   have HC := Lib.hid HC
   have RD := Lib.hid (RD.out.below ((Below.refl Wd.heap.size Wd).alloc (Nat.le_refl _) (.cells #[.int .i64 (-2), .int .i64 2, .int .i64 5] 3)))
   have GR := Lib.hid (grownBy_trans GR.out (World.grownBy_alloc Wd (.cells #[.int .i64 (-2), .int .i64 2, .int .i64 5] 3) (some R)))
   have FS := Lib.hid (FS.out.alloc (.cells #[.int .i64 (-2), .int .i64 2, .int .i64 5] 3))
   have FX := Lib.hid (FX.out.alloc (.cells #[.int .i64 (-2), .int .i64 2, .int .i64 5] 3))
   go_wp2_with (fail)
   refine (oneR Wd.heap.size [-2, 2, 5] RD.out (by omega) (by simp) (by simp) (by omega) HC.out).mono ?_
   rintro e Ws ⟨s, rfl, qs, qs0, qs1, hr, hgr⟩
   have RD := Lib.hid hr
   have GR := Lib.hid (grownBy_trans GR.out hgr)
   have FS := Lib.hid (FS.out.grown hgr (by simpa using hsR))
   have FX := Lib.hid (FX.out.grown hgr (by simpa using hxR))
   obtain ⟨x0, x1, x2, x3, x4⟩ := FX.out.cells
   have xf := FX.out.frozen
   clear hr hgr
   obtain ⟨s0, s1, s2, s3, s4⟩ := FS.out.cells
   have sf := FS.out.frozen
   go_wp2
   go_light
   refine bodyPost_ret (v := req a b o s y) (by simp [results, Try.results62, go_sem, s0, s1, s2, s3, s4]) rfl ⟨_, _, _, _, _, rfl, ?_⟩
   exact back5 _ _ _ _ _ (by omega) (by omega) (RD.out.set w.heap.size Wa.heap.size 3 (.int .i64 s) hOld.out hRlt (by omega)) (grown_new GR.out (grownBy_set Ws Wa.heap.size 3 (.int .i64 s)) (by omega)) hOld.out hRlt
 have e0 : (d == 0) = false := by simp; omega
 have e1 : (d == 1) = false := by simp; omega
 have e2 : (d == 2) = false := by simp; omega
 have e3 : (d == 3) = false := by simp; omega
 have e4 : (d == 4) = false := by simp; omega
 obtain ⟨x0, x1, x2, x3, x4⟩ := FX.out.cells
 have xf := FX.out.frozen
 obtain ⟨s0, s1, s2, s3, s4⟩ := FS.out.cells
 have sf := FS.out.frozen
 go_wp2
 go_light
 refine bodyPost_ret (v := req a b o x y) (by simp [results, Try.results62, go_sem, s0, s1, s2, s3, s4]) rfl ⟨_, _, _, _, _, rfl, ?_⟩
 exact back5 _ _ _ _ _ (by omega) (by omega) RD.out GR.out hOld.out hRlt
end Go.Proofs.Ytameldhdegcpoaa
namespace Go.Proofs.Ytameldhdegcpoaa
open Go.ChangeShapes Go.WideShapes Go.ChangeAt Go.RowKit
set_option linter.unusedVariables false
theorem Reader.opened {w : World} {A : Option Addr} {n c : Nat} (m : Nat) (hmn : m ≤ n) (hm : m ≤ 2000) (hb : InB w A n) :
 Reader (w.alloc (.cells #[.slice A m c, .int .i64 0] 99)) w.heap.size A m c 0 :=
 ⟨heap_alloc_new w _, fun i hi => by
  obtain ⟨b, off, u, h1, h2, h3⟩ := hb i (by omega)
  exact ⟨b, off, u, h1, (World.grownBy_alloc w (.cells #[.slice A m c, .int .i64 0] 99) none).cell h2 (by simp), h3⟩, fun h0 b off h => by
  obtain ⟨b', off', u, h1, h2, h3⟩ := hb 0 (by omega)
  have := World.block_lt_of_cell? w _ h2
  rw [h] at h1
  cases h1
  simp at this
  omega, by omega, hm⟩
theorem l20Open {w : World} {A : Option Addr} {n c : Nat} (hn : n ≤ 1048576) (hc : n ≤ c) (hb : InB w A n) :
 Calls Try.prog 58 #[.slice A n c] w fun e w' => ∃ m : Nat, e = .returned (.pointer (some ⟨w.heap.size, 0, none⟩)) ∧ Reader w' w.heap.size A m c 0 ∧ Below w.heap.size w w' := by
 have HB := Lib.hid hb
 clear hb
 go_enter Try.func58, Try.ntmps58
 by_cases h0 : n ≤ 2000
 · have e0 : (decide ((2000 : Int) < (n : Int))) = false := by simp; omega
   go_wp2
   go_light
   refine bodyPost_ret (v := .pointer (some ⟨w.heap.size, 0, none⟩)) (by simp [results, Try.results58, go_sem]) rfl ⟨n, rfl, ?_, ?_⟩
   · exact Reader.opened n (Nat.le_refl _) h0 HB.out
   · exact (Below.refl w.heap.size w).alloc (Nat.le_refl _) _
 · have e0 : (decide ((2000 : Int) < (n : Int))) = true := by simp; omega
   go_wp2
   go_light
   refine bodyPost_ret (v := .pointer (some ⟨w.heap.size, 0, none⟩)) (by simp [results, Try.results58, go_sem]) rfl ⟨2000, rfl, ?_, ?_⟩
   · exact Reader.opened 2000 (by omega) (Nat.le_refl _) HB.out
   · exact (Below.refl w.heap.size w).alloc (Nat.le_refl _) _
end Go.Proofs.Ytameldhdegcpoaa
