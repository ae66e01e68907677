/- Tc, Td, Te, Tf, Tg, Th, Tj, Tk, Tl, Tm, Tn, Ti, To -/
import Derived.Test.YtagjkngiijmokaaMB
import Derived.Test.YtagjkngiijmokaaMA
import Derived.RegionTactic
import Derived.Deep.DeepCutAuto
import Derived.Deep.Slices
import Derived.Lib.SmallJoins
import Derived.IntWalk
import Derived.Deep.RegionHeld3
/- Contracts of the laws' own helpers over slices of ints. -/
namespace Go.Proofs.Ytagjkngiijmokaa
open Go.ChangeShapes Go.WideShapes Go.ChangeAt Go.RowKit
set_option linter.unusedVariables false

set_option maxRecDepth 100000 in
theorem eqIntS (A B : Option Addr) (c d : Nat) (la lb : List Int) (w : World) (hA : la.length ≤ maxLen) (hB : lb.length ≤ maxLen) (ha : RdI w A la) (hb : RdI w B lb) :
 Calls Try.prog 50 #[.slice A la.length c, .slice B lb.length d] w fun e w' => e = .returned (.bool (decide (la = lb))) ∧ ∃ m, w' = w.drewN m := by
 unfold maxLen at hA hB
 have HA := Lib.hid ha
 have HB := Lib.hid hb
 clear ha hb
 by_cases hl : la.length = lb.length
 · have hl1 : ((la.length : Int) != (lb.length : Int)) = false := by simp [hl]
   have HL := Lib.hid hl
   clear hl
   go_enter Try.func50, Try.ntmps50
   go_wp2
   go_loopw [5] (fun i wr => ∃ k m : Nat, k ≤ la.length ∧ i = .int .i64 k ∧ wr = w.drewN m ∧ Hid (la.take k = lb.take k)) (fun i _ => la.length - (intOf i).toNat)
   case atStart => exact ⟨0, 0, Nat.zero_le _, rfl, rfl, by simp [Hid]⟩
   case round =>
    obtain ⟨k, m, hk, rfl, rfl, ht⟩ := hrel
    by_cases hlt : k < la.length
    · have hltb : k < lb.length := by have := HL.out; omega
      obtain ⟨g, rfl, hg⟩ := HA.out k hlt
      obtain ⟨g', rfl, hg'⟩ := HB.out k hltb
      obtain ⟨x, hx⟩ : ∃ x, x = la[k] := ⟨_, rfl⟩
      obtain ⟨y, hy⟩ : ∃ y, y = lb[k] := ⟨_, rfl⟩
      rw [← hx] at hg
      rw [← hy] at hg'
      have HX := Lib.hid hx
      have HY := Lib.hid hy
      clear hx hy
      have i0 : (0 : Int) ≤ (k : Int) := by omega
      have i1 : (k : Int) < (la.length : Int) := by omega
      have i2 : (k : Int) < (lb.length : Int) := by omega
      rcases hxy : (x != y) with _ | _
      · go_wp2_with (fail)
        go_quiet (fail)
        go_wp2
        go_roundw
        case rel => exact ⟨k + 1, _, by omega, by go_num, rfl, take_step hlt hltb ht.out (by rw [← HX.out, ← HY.out]; simpa using hxy)⟩
        case measure => simp [intOf]; omega
      · go_wp2_with (fail)
        go_quiet (fail)
        go_wp2
        go_ret
        exact ⟨ret_bool (decide_eq_false (ne_of_at hlt hltb (by rw [← HX.out, ← HY.out]; simpa using hxy))).symm, m + nq, World.drewN_drewN ..⟩
    · have hz : k = la.length := by omega
      have HZ := Lib.hid hz
      clear hz
      go_wp2
      go_ret
      have h1 := ht.out
      rw [HZ.out, List.take_length, HL.out, List.take_length] at h1
      exact ⟨ret_bool (decide_eq_true h1).symm, m, rfl⟩
 · have hl1 : ((la.length : Int) != (lb.length : Int)) = true := by simp; omega
   have HL := Lib.hid hl
   clear hl
   go_enter Try.func50, Try.ntmps50
   go_wp2
   go_ret
   exact ⟨ret_bool (decide_eq_false (fun e => HL.out (by rw [e]))).symm, 0, rfl⟩

set_option maxRecDepth 100000 in
theorem markIntS (base : Nat) (A : Option Addr) (c n : Nat) (xs : List Value) (k : Int) (w : World) (h0 : 0 ≤ k) (h1 : k + n ≤ 4611686018427387904) (hn : n ≤ maxLen) (hown : w.ownsRow base 3 1 (.slice A n c) n xs) :
 Calls Try.prog 52 #[.slice A n c, .int .i64 k] w fun e w' => e = .returned (.int .i64 (k + n)) ∧ w'.ownsRow base 3 1 (.slice A n c) n (ints (marks k n)) ∧ w.grownBy w' (Value.slice A n c).ownBlock := by
 unfold maxLen at hn
 have HO := Lib.hid hown
 have hxl : n = xs.length := by have := hown.1; omega
 have HX := Lib.hid hxl
 clear hown hxl
 go_enter Try.func52, Try.ntmps52
 go_wp2
 go_loopw [1, 5] (fun kk i wr => ∃ j : Nat, j ≤ n ∧ i = .int .i64 j ∧ kk = .int .i64 (k + j) ∧ Hid (wr.ownsRow base 3 1 (.slice A n c) n (ints (marks k j) ++ xs.drop j)) ∧ Hid (w.grownBy wr (Value.slice A n c).ownBlock)) (fun _ i _ => n - (intOf i).toNat)
 case atStart => exact ⟨0, Nat.zero_le _, rfl, by simp, by simpa [Hid, marks] using HO.out, World.grownBy.refl _ _⟩
 case round =>
  obtain ⟨j, hj, rfl, rfl, ho, hg⟩ := hrel
  by_cases hlt : j < n
  · obtain ⟨g, rfl, hb, _⟩ := own_some ho.out (by omega)
    have hf := ho.out.frozenAt j
    have hc : wr.cell? ⟨g, j, none⟩ = (ints (marks k j) ++ xs.drop j)[j]? := ho.out.cellAt j (by omega)
    have hst := ho.out.stored j (.int .i64 (k + (j : Int)))
    rw [set_marks k j xs (by have := HX.out; omega)] at hst
    obtain ⟨hs1, hs2⟩ := hst
    have H1 := Lib.hid hs1
    have H2 := Lib.hid (grownBy_trans hg.out hs2)
    clear hs1 hs2 hb
    obtain ⟨u, hu⟩ : ∃ u, (ints (marks k j) ++ xs.drop j)[j]? = some u := ⟨_, List.getElem?_eq_getElem (by have := HX.out; simp; omega)⟩
    rw [hu] at hc
    clear hu
    have i0 : (0 : Int) ≤ (j : Int) := by omega
    have i1 : (j : Int) < (n : Int) := by omega
    go_wp2
    go_roundw
    case rel => exact ⟨j + 1, by omega, by go_num, by go_num, H1.out, H2.out⟩
    case measure => simp [intOf]; omega
  · have hz : j = n := by omega
    have HZ := Lib.hid hz
    clear hz
    go_wp2
    go_ret
    have := ho.out
    rw [HZ.out] at this ⊢
    rw [List.drop_of_length_le (by have := HX.out; omega), List.append_nil] at this
    exact ⟨rfl, this, hg.out⟩

set_option maxRecDepth 100000 in
theorem heldIntS (A : Option Addr) (c n : Nat) (k : Int) (w : World) (h0 : 0 ≤ k) (h1 : k + n ≤ 4611686018427387904) (hn : n ≤ maxLen) (hr : RdI w A (marks k n)) :
 Calls Try.prog 54 #[.slice A n c, .int .i64 k] w fun e w' => e = .returned (.int .i64 (k + n)) ∧ w' = w := by
 unfold maxLen at hn
 have HR := Lib.hid hr
 clear hr
 go_enter Try.func54, Try.ntmps54
 go_wp2
 go_loop [1, 5] (fun kk i => ∃ j : Nat, j ≤ n ∧ i = .int .i64 j ∧ kk = .int .i64 (k + j)) (fun _ i => n - (intOf i).toNat)
 case atStart => exact ⟨0, Nat.zero_le _, rfl, by simp⟩
 case round =>
  obtain ⟨j, hj, rfl, rfl⟩ := hrel
  by_cases hlt : j < n
  · obtain ⟨g, rfl, hc⟩ := HR.out j (by simpa using hlt)
    rw [marks_at] at hc
    have i0 : (0 : Int) ≤ (j : Int) := by omega
    have i1 : (j : Int) < (n : Int) := by omega
    have e0 : ((k + (j : Int)) != (k + (j : Int))) = false := by simp
    go_wp2
    go_round
    case rel => exact ⟨j + 1, by omega, by go_num, by go_num⟩
    case measure => simp [intOf]; omega
  · have hz : j = n := by omega
    have HZ := Lib.hid hz
    clear hz
    go_wp2
    go_ret
    rw [HZ.out]
    exact ⟨rfl, rfl⟩
end Go.Proofs.Ytagjkngiijmokaa

/- Contracts of the laws' own helpers over figures. -/
namespace Go.Proofs.Ytagjkngiijmokaa
open Go.ChangeShapes Go.WideShapes Go.ChangeAt Go.RowKit
set_option linter.unusedVariables false

theorem eqEnt (a b : Fig) (w : World) :
 Calls Try.prog 73 #[a.val, b.val] w fun e w' => e = .returned (.bool (decide (a = b))) ∧ Below w.heap.size w w' := by
 obtain ⟨c, x, y, l, g⟩ := a
 obtain ⟨c', x', y', l', g'⟩ := b
 go_enter Try.func73, Try.ntmps73
 go_wp2
 all_goals go_light
 all_goals go_ret
 all_goals refine ⟨ret_bool ?_, ((Below.refl _ _).alloc (Nat.le_refl _) _).alloc (by simp) _⟩
 all_goals (simp_all)

set_option maxRecDepth 100000 in
theorem eqEntS (A B : Option Addr) (c d : Nat) (la lb : List Fig) (w : World) (hA : la.length ≤ maxLen) (ha : RdF w A la) (hb : RdF w B lb) :
 Calls Try.prog 49 #[.slice A la.length c, .slice B lb.length d] w fun e w' => e = .returned (.bool (decide (la = lb))) ∧ Below w.heap.size w w' := by
 unfold maxLen at hA
 have HA := Lib.hid ha
 have HB := Lib.hid hb
 clear ha hb
 by_cases hl : la.length = lb.length
 · have hl1 : ((la.length : Int) != (lb.length : Int)) = false := by simp [hl]
   have HL := Lib.hid hl
   clear hl
   go_enter Try.func49, Try.ntmps49
   go_wp2
   go_loopw [5] (fun i wr => ∃ k : Nat, k ≤ la.length ∧ i = .int .i64 k ∧ Hid (Below w.heap.size w wr) ∧ Hid (la.take k = lb.take k)) (fun i _ => la.length - (intOf i).toNat)
   case atStart => exact ⟨0, Nat.zero_le _, rfl, Below.refl _ _, by simp [Hid]⟩
   case round =>
    obtain ⟨k, hk, rfl, hbw, ht⟩ := hrel
    by_cases hlt : k < la.length
    · have hltb : k < lb.length := by have := HL.out; omega
      obtain ⟨g, rfl, a0, a1, a2, a3, a4⟩ := RdF.below HA.out hbw.out k hlt
      obtain ⟨g', rfl, b0, b1, b2, b3, b4⟩ := RdF.below HB.out hbw.out k hltb
      obtain ⟨x, hx⟩ : ∃ x, x = la[k] := ⟨_, rfl⟩
      obtain ⟨y, hy⟩ : ∃ y, y = lb[k] := ⟨_, rfl⟩
      rw [← hx] at a0 a1 a2 a3 a4
      rw [← hy] at b0 b1 b2 b3 b4
      have HX := Lib.hid hx
      have HY := Lib.hid hy
      clear hx hy
      have i0 : (0 : Int) ≤ (k : Int) := by omega
      have i1 : (k : Int) < (la.length : Int) := by omega
      have i2 : (k : Int) < (lb.length : Int) := by omega
      by_cases hxy : x = y
      · subst hxy
        go_wp2_with (fail)
        refine wp_region_still_tail 8 (by kernel_rfl) (by kernel_rfl) ?_
        change wpStill _ _ (World.drew _) (fun a' => wpList _ _ _ _ a' (World.drew _)) _ _
        simp only [List.take_succ_cons, List.take_zero, List.drop_succ_cons, List.drop_zero]
        repeat still_step
        refine wpStill_nil ?_
        go_wp2_with (fail)
        refine (eqEnt x x _).mono ?_
        rintro e w1 ⟨rfl, h1⟩
        rw [decide_eq_true rfl]
        go_wp2
        go_roundw
        case rel => exact ⟨k + 1, by omega, by go_num, Below.and hbw.out (Below.and (Below.refl _ _).drew h1), take_step hlt hltb ht.out (by rw [← HX.out, ← HY.out])⟩
        case measure => simp [intOf]; omega
      · have hd := Lib.hid hxy
        clear hxy
        go_wp2_with (fail)
        refine wp_region_still_tail 8 (by kernel_rfl) (by kernel_rfl) ?_
        change wpStill _ _ (World.drew _) (fun a' => wpList _ _ _ _ a' (World.drew _)) _ _
        simp only [List.take_succ_cons, List.take_zero, List.drop_succ_cons, List.drop_zero]
        repeat still_step
        refine wpStill_nil ?_
        go_wp2_with (fail)
        refine (eqEnt x y _).mono ?_
        rintro e w1 ⟨rfl, h1⟩
        rw [decide_eq_false hd.out]
        go_wp2
        go_ret
        exact ⟨ret_bool (decide_eq_false (ne_of_at hlt hltb (by rw [← HX.out, ← HY.out]; exact hd.out))).symm, Below.and hbw.out (Below.and (Below.refl _ _).drew h1)⟩
    · have hz : k = la.length := by omega
      have HZ := Lib.hid hz
      clear hz
      go_wp2
      go_ret
      have h1 := ht.out
      rw [HZ.out, List.take_length, HL.out, List.take_length] at h1
      exact ⟨ret_bool (decide_eq_true h1).symm, hbw.out⟩
 · have hl1 : ((la.length : Int) != (lb.length : Int)) = true := by simp; omega
   have HL := Lib.hid hl
   clear hl
   go_enter Try.func49, Try.ntmps49
   go_wp2
   go_ret
   exact ⟨ret_bool (decide_eq_false (fun e => HL.out (by rw [e]))).symm, Below.refl _ _⟩
end Go.Proofs.Ytagjkngiijmokaa

/- Marks over figures. -/
namespace Go.Proofs.Ytagjkngiijmokaa
open Go.ChangeShapes Go.WideShapes Go.ChangeAt Go.RowKit
set_option linter.unusedVariables false

set_option maxRecDepth 100000 in
theorem markEntS (base : Nat) (A : Option Addr) (c n : Nat) (xs : List Value) (k : Int) (w : World) (h0 : 0 ≤ k) (h1 : k + 5 * n ≤ 4611686018427387904) (hn : n ≤ maxLen) (hown : w.ownsRow base 59 5 (.slice A n c) n xs) :
 Calls Try.prog 51 #[.slice A n c, .int .i64 k] w fun e w' => e = .returned (.int .i64 (k + 5 * n)) ∧ w'.ownsRow base 59 5 (.slice A n c) n (ints (marks k (n * 5))) ∧ w.grownBy w' (Value.slice A n c).ownBlock := by
 unfold maxLen at hn
 have HO := Lib.hid hown
 have hxl : n * 5 = xs.length := by have := hown.1; omega
 have HX := Lib.hid hxl
 clear hown hxl
 go_enter Try.func51, Try.ntmps51
 go_wp2
 go_loopw [1, 5] (fun kk i wr => ∃ j : Nat, j ≤ n ∧ i = .int .i64 j ∧ kk = .int .i64 (k + 5 * j) ∧ Hid (wr.ownsRow base 59 5 (.slice A n c) n (ints (marks k (j * 5)) ++ xs.drop (j * 5))) ∧ Hid (w.grownBy wr (Value.slice A n c).ownBlock)) (fun _ i _ => n - (intOf i).toNat)
 case atStart => exact ⟨0, Nat.zero_le _, rfl, by simp, by simpa [Hid, marks] using HO.out, World.grownBy.refl _ _⟩
 case round =>
  obtain ⟨j, hj, rfl, rfl, ho, hg⟩ := hrel
  by_cases hlt : j < n
  · obtain ⟨g, rfl, hb, _⟩ := own_some ho.out (by omega)
    have hf := fun p => ho.out.frozenAt p
    have hc : ∀ p, p < 5 → ∃ u, wr.cell? ⟨g, j * 5 + p, none⟩ = some u := fun p hp => ⟨_, (ho.out.cellAt (j * 5 + p) (by omega)).trans (List.getElem?_eq_getElem (by have := HX.out; simp; omega))⟩
    obtain ⟨u0, hu0⟩ := hc 0 (by omega)
    obtain ⟨u1, hu1⟩ := hc 1 (by omega)
    obtain ⟨u2, hu2⟩ := hc 2 (by omega)
    obtain ⟨u3, hu3⟩ := hc 3 (by omega)
    obtain ⟨u4, hu4⟩ := hc 4 (by omega)
    rw [Nat.add_zero] at hu0
    clear hc
    have i0 : (0 : Int) ≤ (j : Int) := by omega
    have i1 : (j : Int) < (n : Int) := by omega
    obtain ⟨m1, m2⟩ := mark5 (k := k) (xs := xs) j hlt HX.out ho.out
    have M1 := Lib.hid m1
    have M2 := Lib.hid (grownBy_trans hg.out m2)
    clear m1 m2
    go_wp2
    go_roundw
    case rel => exact ⟨j + 1, by omega, by go_num, by go_num, M1.out, M2.out⟩
    case measure => simp [intOf]; omega
  · have hz : j = n := by omega
    have HZ := Lib.hid hz
    clear hz
    go_wp2
    go_ret
    have := ho.out
    rw [HZ.out] at this ⊢
    rw [List.drop_of_length_le (by have := HX.out; omega), List.append_nil] at this
    exact ⟨rfl, this, hg.out⟩

set_option maxRecDepth 100000 in
theorem heldEntS (A : Option Addr) (c n : Nat) (k : Int) (w : World) (h0 : 0 ≤ k) (h1 : k + 5 * n ≤ 4611686018427387904) (hn : n ≤ maxLen) (hr : RdM w A (n * 5) k) :
 Calls Try.prog 53 #[.slice A n c, .int .i64 k] w fun e w' => e = .returned (.int .i64 (k + 5 * n)) ∧ w' = w := by
 unfold maxLen at hn
 have HR := Lib.hid hr
 clear hr
 go_enter Try.func53, Try.ntmps53
 go_wp2
 go_loop [1, 5] (fun kk i => ∃ j : Nat, j ≤ n ∧ i = .int .i64 j ∧ kk = .int .i64 (k + 5 * j)) (fun _ i => n - (intOf i).toNat)
 case atStart => exact ⟨0, Nat.zero_le _, rfl, by simp⟩
 case round =>
  obtain ⟨j, hj, rfl, rfl⟩ := hrel
  by_cases hlt : j < n
  · obtain ⟨g, rfl, c0⟩ := HR.out (j * 5) (by omega)
    obtain ⟨g1, e1, c1⟩ := HR.out (j * 5 + 1) (by omega)
    obtain ⟨g2, e2, c2⟩ := HR.out (j * 5 + 2) (by omega)
    obtain ⟨g3, e3, c3⟩ := HR.out (j * 5 + 3) (by omega)
    obtain ⟨g4, e4, c4⟩ := HR.out (j * 5 + 4) (by omega)
    cases e1; cases e2; cases e3; cases e4
    rw [show k + ((j * 5 : Nat) : Int) = k + 5 * (j : Int) from by omega] at c0
    rw [show k + ((j * 5 + 1 : Nat) : Int) = k + 5 * (j : Int) + 1 from by omega] at c1
    rw [show k + ((j * 5 + 2 : Nat) : Int) = k + 5 * (j : Int) + 1 + 1 from by omega] at c2
    rw [show k + ((j * 5 + 3 : Nat) : Int) = k + 5 * (j : Int) + 1 + 1 + 1 from by omega] at c3
    rw [show k + ((j * 5 + 4 : Nat) : Int) = k + 5 * (j : Int) + 1 + 1 + 1 + 1 from by omega] at c4
    have i0 : (0 : Int) ≤ (j : Int) := by omega
    have i1 : (j : Int) < (n : Int) := by omega
    go_wp2
    go_round
    case rel => exact ⟨j + 1, by omega, by go_num, by go_num⟩
    case measure => simp [intOf]; omega
  · have hz : j = n := by omega
    have HZ := Lib.hid hz
    clear hz
    go_wp2
    go_ret
    rw [HZ.out]
    exact ⟨rfl, rfl⟩
end Go.Proofs.Ytagjkngiijmokaa

/- Contracts of the laws' own helpers over games. -/
namespace Go.Proofs.Ytagjkngiijmokaa
open Go.ChangeShapes Go.WideShapes Go.ChangeAt Go.RowKit
set_option linter.unusedVariables false

theorem boxed2 {w w1 : World} {o o' : Obj} (hb : Below ((w.alloc o).alloc o').heap.size ((w.alloc o).alloc o') w1) (k : Nat) : w1.cell? ⟨w.heap.size, k, none⟩ = ((w.alloc o).alloc o').cell? ⟨w.heap.size, k, none⟩ := hb.cell (by simp; omega)
theorem boxed2' {w w1 : World} {o o' : Obj} (hb : Below ((w.alloc o).alloc o').heap.size ((w.alloc o).alloc o') w1) (k : Nat) : w1.cell? ⟨w.heap.size + 1, k, none⟩ = ((w.alloc o).alloc o').cell? ⟨w.heap.size + 1, k, none⟩ := hb.cell (by simp)

abbrev gameV (A : Option Addr) (n a : Nat) (B : Option Addr) (m b : Nat) (C : Option Addr) (l c : Nat) : Value := .agg #[.slice A n a, .slice B m b, .slice C l c]

theorem below_alloc2 (w : World) (o o' : Obj) : Below w.heap.size w ((w.alloc o).alloc o') := ((Below.refl _ _).alloc (Nat.le_refl _) _).alloc (by simp) _

set_option maxRecDepth 100000 in
theorem eqGame (A B C A' B' C' : Option Addr) (a b c a' b' c' : Nat) (E E' : List Fig) (F F' L L' : List Int) (w : World)
 (hE : E.length ≤ maxLen) (hF : F.length ≤ maxLen) (hF' : F'.length ≤ maxLen) (hL : L.length ≤ maxLen) (hL' : L'.length ≤ maxLen)
 (r1 : RdF w A E) (r2 : RdI w B F) (r3 : RdI w C L) (r1' : RdF w A' E') (r2' : RdI w B' F') (r3' : RdI w C' L') :
 Calls Try.prog 18 #[gameV A E.length a B F.length b C L.length c, gameV A' E'.length a' B' F'.length b' C' L'.length c'] w fun e w' => e = .returned (.bool (decide (E = E' ∧ F = F' ∧ L = L'))) ∧ Below w.heap.size w w' := by
 have H1 := Lib.hid r1; have H2 := Lib.hid r2; have H3 := Lib.hid r3; have H1' := Lib.hid r1'; have H2' := Lib.hid r2'; have H3' := Lib.hid r3'
 clear r1 r2 r3 r1' r2' r3'
 go_enter Try.func18, Try.ntmps18
 go_wp2_with (fail)
 have B0 := below_alloc2 w (.cells #[.slice A E.length a, .slice B F.length b, .slice C L.length c] 28) (.cells #[.slice A' E'.length a', .slice B' F'.length b', .slice C' L'.length c'] 28)
 refine (eqEntS A A' a a' E E' _ hE (RdF.below H1.out B0) (RdF.below H1'.out B0)).mono ?_
 rintro e w1 ⟨rfl, h1⟩
 have k1 := boxed2 h1; have k1' := boxed2' h1
 rcases he : decide (E = E') with _ | _
 · go_wp2
   go_light
   go_ret
   exact ⟨ret_bool (by simp at he; simp [he]), Below.and B0 h1⟩
 have HEE := Lib.hid (of_decide_eq_true he)
 clear he
 go_wp2_with (fail)
 refine (eqIntS B B' b b' F F' _ hF hF' (RdI.below H2.out (Below.and B0 h1)) (RdI.below H2'.out (Below.and B0 h1))).mono ?_
 rintro e w2 ⟨rfl, m2, rfl⟩
 rcases he : decide (F = F') with _ | _
 · go_wp2
   go_light
   go_ret
   exact ⟨ret_bool (by simp at he; simp [he]), Below.drewN (Below.and B0 h1) _⟩
 have HFF := Lib.hid (of_decide_eq_true he)
 clear he
 go_wp2_with (fail)
 refine (eqIntS C C' c c' L L' _ hL hL' ((RdI.below H3.out (Below.and B0 h1)).drewN _) ((RdI.below H3'.out (Below.and B0 h1)).drewN _)).mono ?_
 rintro e w2 ⟨rfl, m3, rfl⟩
 rcases he : decide (L = L') with _ | _
 · go_wp2
   go_light
   go_ret
   exact ⟨ret_bool (by simp at he; simp [he]), by first | exact Below.drewN (Below.drewN (Below.and B0 h1) _) _ | exact Below.drewN (Below.and B0 h1) _⟩
 have HLL := Lib.hid (of_decide_eq_true he)
 clear he
 go_wp2
 go_light
 go_ret
 exact ⟨ret_bool (by rw [decide_eq_true (And.intro HEE.out (And.intro HFF.out HLL.out))]), by first | exact Below.drewN (Below.drewN (Below.and B0 h1) _) _ | exact Below.drewN (Below.and B0 h1) _⟩

theorem boxed1 {w w1 : World} {o : Obj} {row : Option Nat} (hg : (w.alloc o).grownBy w1 row) (hr : row ≠ some w.heap.size) (k : Nat) : w1.cell? ⟨w.heap.size, k, none⟩ = (w.alloc o).cell? ⟨w.heap.size, k, none⟩ :=
 World.cell?_of_block (w := w.alloc o) (hg.block w.heap.size (by simp) (Ne.symm hr))

/-- A game whose rows lie in the blocks from lo on, below hi. -/
structure GameAt (w : World) (lo hi : Nat) (A : Option Addr) (a : Nat) (B : Option Addr) (b : Nat) (C : Option Addr) (c : Nat) (E : List Fig) (F L : List Int) : Prop where
 ents : w.ownsRow lo 59 5 (.slice A E.length a) E.length (figs E)
 floor : w.ownsRow lo 3 1 (.slice B F.length b) F.length (ints F)
 last : w.ownsRow lo 3 1 (.slice C L.length c) L.length (ints L)
 two : ∀ g, (Value.slice B F.length b).ownBlock = some g → (Value.slice C L.length c).ownBlock ≠ some g
 entsHi : ∀ g, (Value.slice A E.length a).ownBlock = some g → g < hi
 floorHi : ∀ g, (Value.slice B F.length b).ownBlock = some g → g < hi
 lastHi : ∀ g, (Value.slice C L.length c).ownBlock = some g → g < hi

section
variable {w w' : World} {lo hi : Nat} {A : Option Addr} {a : Nat} {B : Option Addr} {b : Nat} {C : Option Addr} {c : Nat} {E : List Fig} {F L : List Int}

theorem GameAt.same (h : GameAt w lo hi A a B b C c E F L) (hk : ∀ k, lo ≤ k → k < hi → w'.heap[k]? = w.heap[k]?) : GameAt w' lo hi A a B b C c E F L :=
 ⟨own_same h.ents fun k e => hk k (h.ents.lt k e).1 (h.entsHi k e), own_same h.floor fun k e => hk k (h.floor.lt k e).1 (h.floorHi k e), own_same h.last fun k e => hk k (h.last.lt k e).1 (h.lastHi k e), h.two, h.entsHi, h.floorHi, h.lastHi⟩

theorem GameAt.below (h : GameAt w lo hi A a B b C c E F L) (hb : Below w.heap.size w w') : GameAt w' lo hi A a B b C c E F L :=
 ⟨own_below h.ents hb, own_below h.floor hb, own_below h.last hb, h.two, h.entsHi, h.floorHi, h.lastHi⟩

theorem GameAt.keeps {lo' hi' : Nat} (h : GameAt w lo hi A a B b C c E F L) (hk : Keeps lo' hi' w w') (ho : hi ≤ lo' ∨ hi' ≤ lo) : GameAt w' lo hi A a B b C c E F L :=
 ⟨own_same h.ents fun k e => hk.block k (h.ents.lt k e).2 (by have := (h.ents.lt k e).1; have := h.entsHi k e; omega), own_same h.floor fun k e => hk.block k (h.floor.lt k e).2 (by have := (h.floor.lt k e).1; have := h.floorHi k e; omega),
  own_same h.last fun k e => hk.block k (h.last.lt k e).2 (by have := (h.last.lt k e).1; have := h.lastHi k e; omega), h.two, h.entsHi, h.floorHi, h.lastHi⟩
end

set_option maxRecDepth 100000 in
theorem markGame {w : World} {lo hi : Nat} {A : Option Addr} {a : Nat} {B : Option Addr} {b : Nat} {C : Option Addr} {c : Nat} {E : List Fig} {F L : List Int} (k : Int) (h : GameAt w lo hi A a B b C c E F L)
 (h0 : 0 ≤ k) (h1 : k ≤ 1) (hE : E.length ≤ 1048576) (hF : F.length ≤ 1048576) (hL : L.length ≤ 1048576) (hhi : hi ≤ w.heap.size) :
 Calls Try.prog 19 #[gameV A E.length a B F.length b C L.length c, .int .i64 k] w fun e w' => e = .returned (.int .i64 (k + 5 * E.length + F.length + L.length)) ∧ Keeps lo hi w w' ∧
  RdM w' A (E.length * 5) k ∧ RdM w' B F.length (k + 5 * E.length) ∧ RdM w' C L.length (k + 5 * E.length + F.length) := by
 have H := Lib.hid h
 clear h
 go_enter Try.func19, Try.ntmps19
 go_wp2_with (fail)
 have B0 : Below w.heap.size w (w.alloc (.cells #[.slice A E.length a, .slice B F.length b, .slice C L.length c] 28)) := (Below.refl _ _).alloc (Nat.le_refl _) _
 have H0 := Lib.hid (H.out.below B0)
 refine (markEntS lo A a E.length (figs E) k _ h0 (by omega) (by unfold maxLen; omega) H0.out.ents).mono ?_
 rintro e w1 ⟨rfl, m1, g1⟩
 have M1 := Lib.hid m1
 have G1 := Lib.hid g1
 have k1 := boxed1 g1 (fun e => by have := H.out.entsHi _ e; omega)
 clear m1 g1
 go_wp2_with (fail)
 have hne1 := own_row_ne H0.out.ents H0.out.floor (by decide)
 have hne2 := own_row_ne H0.out.ents H0.out.last (by decide)
 have F1 := Lib.hid (H0.out.floor.kept G1.out (not_row fun g hb e => hne1 g e hb))
 have L1 := Lib.hid (H0.out.last.kept G1.out (not_row fun g hb e => hne2 g e hb))
 have hz1 : w.heap.size < w1.heap.size := by have := G1.out.size; simp at this; omega
 have N1 := Lib.hid hne1
 have N2 := Lib.hid hne2
 clear hne1 hne2
 refine (markIntS lo B b F.length (ints F) (k + 5 * E.length) _ (by omega) (by omega) (by unfold maxLen; omega) F1.out).mono ?_
 rintro e w2 ⟨rfl, m2, g2⟩
 have M2 := Lib.hid m2
 have G2 := Lib.hid g2
 have k2 : ∀ j, w2.cell? ⟨w.heap.size, j, none⟩ = (w.alloc (.cells #[.slice A E.length a, .slice B F.length b, .slice C L.length c] 28)).cell? ⟨w.heap.size, j, none⟩ := fun j =>
  (World.cell?_of_block (w := w1) (G2.out.block w.heap.size hz1 (fun e => by have := H.out.floorHi _ e.symm; omega))).trans (k1 j)
 clear m2 g2
 go_wp2_with (fail)
 have L2 := Lib.hid (L1.out.kept G2.out (not_row fun g hb e => H.out.two g e hb))
 have E2 := Lib.hid (M1.out.kept G2.out (not_row fun g hb e => N1.out g hb e))
 refine (markIntS lo C c L.length (ints L) (k + 5 * E.length + F.length) _ (by omega) (by omega) (by unfold maxLen; omega) L2.out).mono ?_
 rintro e w3 ⟨rfl, m3, g3⟩
 have M3 := Lib.hid m3
 have G3 := Lib.hid g3
 clear m3 g3
 have E3 := Lib.hid (E2.out.kept G3.out (not_row fun g hb e => N2.out g hb e))
 have F3 := Lib.hid (M2.out.kept G3.out (not_row fun g hb e => H.out.two g hb e))
 go_wp2
 go_light
 go_ret
 refine ⟨rfl, ?_, RdM.of_own E3.out, ?_, ?_⟩
 · exact (Keeps.of_below B0).trans ((Keeps.of_grown G1.out fun g e => ⟨(H.out.ents.lt g e).1, H.out.entsHi g e⟩).trans ((Keeps.of_grown G2.out fun g e => ⟨(H.out.floor.lt g e).1, H.out.floorHi g e⟩).trans
    (Keeps.of_grown G3.out fun g e => ⟨(H.out.last.lt g e).1, H.out.lastHi g e⟩)))
 · have := RdM.of_own (size := 1) (n := F.length) (by simpa using F3.out)
   simpa using this
 · have := RdM.of_own (size := 1) (n := L.length) (by simpa using M3.out)
   simpa using this

set_option maxRecDepth 100000 in
theorem heldGame {w : World} {A : Option Addr} {n a : Nat} {B : Option Addr} {m b : Nat} {C : Option Addr} {l c : Nat} (k : Int)
 (h0 : 0 ≤ k) (h1 : k ≤ 1) (hE : n ≤ 1048576) (hF : m ≤ 1048576) (hL : l ≤ 1048576) (r1 : RdM w A (n * 5) k) (r2 : RdM w B m (k + 5 * n)) (r3 : RdM w C l (k + 5 * n + m)) :
 Calls Try.prog 20 #[gameV A n a B m b C l c, .int .i64 k] w fun e w' => e = .returned (.int .i64 (k + 5 * n + m + l)) ∧ Below w.heap.size w w' := by
 have B0 : Below w.heap.size w (w.alloc (.cells #[.slice A n a, .slice B m b, .slice C l c] 28)) := (Below.refl _ _).alloc (Nat.le_refl _) _
 have H1 := Lib.hid (RdM.below r1 B0); have H2 := Lib.hid (RdM.below r2 B0).ints; have H3 := Lib.hid (RdM.below r3 B0).ints
 clear r1 r2 r3
 go_enter Try.func20, Try.ntmps20
 go_wp2_with (fail)
 refine (heldEntS A a n k _ h0 (by omega) (by unfold maxLen; omega) H1.out).mono ?_
 rintro e w1 ⟨rfl, rfl⟩
 have d1 : decide (k + 5 * (n : Int) < 0) = false := by simp; omega
 go_wp2_with (fail)
 refine (heldIntS B b m (k + 5 * n) _ (by omega) (by omega) (by unfold maxLen; omega) H2.out).mono ?_
 rintro e w1 ⟨rfl, rfl⟩
 have d2 : decide (k + 5 * (n : Int) + (m : Int) < 0) = false := by simp; omega
 go_wp2_with (fail)
 refine (heldIntS C c l (k + 5 * n + m) _ (by omega) (by omega) (by unfold maxLen; omega) H3.out).mono ?_
 rintro e w1 ⟨rfl, rfl⟩
 have d3 : decide (k + 5 * (n : Int) + (m : Int) + (l : Int) < 0) = false := by simp; omega
 go_wp2
 go_light
 go_ret
 exact ⟨rfl, B0⟩
end Go.Proofs.Ytagjkngiijmokaa

/- A new game: the program's and the model's. -/
namespace Go.Proofs.Ytagjkngiijmokaa
open Go.ChangeShapes Go.WideShapes Go.ChangeAt Go.RowKit
set_option linter.unusedVariables false

def floorAt : Nat → List Int
 | 0 => List.replicate 16 0
 | k + 1 => (floorAt k).set (5 * k % 16) ((floorAt k).getD (5 * k % 16) 0 + 1)

theorem floorAt_length (k : Nat) : (floorAt k).length = 16 := by
 induction k with
 | zero => rfl
 | succ k ih => simp [floorAt, ih]

theorem floorAt_bd : ∀ k, k < 20 → 0 ≤ (floorAt k).getD (5 * k % 16) 0 ∧ (floorAt k).getD (5 * k % 16) 0 ≤ 20 := by decide

theorem make16 (w : World) : (Instr.makeSlice 26 (.int .i64 16) (.int .i64 16)).run Try.prog w = .ok (.slice (some ⟨w.heap.size, 0, none⟩) 16 16) (w.alloc (.cells (List.replicate 16 (.int .i64 0)).toArray 3)) := by kernel_rfl
theorem make4 (w : World) : (Instr.makeSlice 26 (.int .i64 4) (.int .i64 4)).run Try.prog w = .ok (.slice (some ⟨w.heap.size, 0, none⟩) 4 4) (w.alloc (.cells #[.int .i64 0, .int .i64 0, .int .i64 0, .int .i64 0] 3)) := by kernel_rfl

def zeros16 : Array Value := (List.replicate 16 (.int .i64 0)).toArray

/-- A game that is new: no figures, gold F on the floor. -/
def NewAt (w : World) (e : Ending) (w' : World) : Prop :=
 ∃ B b C c, e = .returned (gameV none 0 0 B 16 b C 4 c) ∧ GameAt w' w.heap.size w'.heap.size none 0 B b C c [] (floorAt 20) [0, 0, 0, 0] ∧ Below w.heap.size w w'

set_option maxRecDepth 100000 in
theorem gameNew (w : World) :
 Calls Try.prog 12 #[] w (NewAt w) := by
 have m16 : ∀ w : World, (Instr.makeSlice 26 (.int .i64 16) (.int .i64 16)).run Try.prog w = .ok (.slice (some ⟨w.heap.size, 0, none⟩) 16 16) (w.alloc (.cells zeros16 3)) := make16
 have m4 := make4
 go_enter Try.func12, Try.ntmps12
 go_wp2
 go_loopw [4] (fun i wr => ∃ k : Nat, k ≤ 20 ∧ i = .int .i64 k ∧ Hid (wr.ownsRow (w.heap.size + 1) 3 1 (.slice (some ⟨w.heap.size + 1, 0, none⟩) 16 16) 16 (ints (floorAt k))) ∧
  Hid (((w.alloc (.cells #[.slice none 0 0, .slice none 0 0, .slice none 0 0] 28)).alloc (.cells zeros16 3)).grownBy wr (some (w.heap.size + 1)))) (fun i _ => 20 - (intOf i).toNat)
 case atStart =>
  refine ⟨0, Nat.zero_le _, rfl, ?_, World.grownBy.refl _ _⟩
  have := World.ownsRow_lit (base := w.heap.size + 1) (e := 3) (size := 1) (w.alloc (.cells #[.slice none 0 0, .slice none 0 0, .slice none 0 0] 28)) zeros16 16 (by simp) (by unfold maxLen; omega) rfl
  simpa [Hid, zeros16, floorAt, ints] using this
 case round =>
  obtain ⟨k, hk, rfl, ho, hg⟩ := hrel
  by_cases hlt : k < 20
  · have hb := floorAt_bd k hlt
    have hc : wr.cell? ⟨w.heap.size + 1, 5 * k % 16, none⟩ = some (.int .i64 ((floorAt k).getD (5 * k % 16) 0)) := by
     rw [ho.out.cellAt _ (by omega), List.getElem?_map, List.getElem?_eq_getElem (by rw [floorAt_length]; omega)]
     simp [List.getD_eq_getElem?_getD, List.getElem?_eq_getElem (show 5 * k % 16 < (floorAt k).length by rw [floorAt_length]; omega)]
    have hf := ho.out.frozenAt (5 * k % 16)
    have hst := ho.out.stored (5 * k % 16) (.int .i64 ((floorAt k).getD (5 * k % 16) 0 + 1))
    rw [show (ints (floorAt k)).set (5 * k % 16) (.int .i64 ((floorAt k).getD (5 * k % 16) 0 + 1)) = ints (floorAt (k + 1)) from by rw [floorAt, ints, ints, List.map_set]] at hst
    have S1 := Lib.hid hst.1
    have S2 := Lib.hid (grownBy_trans hg.out hst.2)
    clear hst
    obtain ⟨v, hv⟩ : ∃ v, v = (floorAt k).getD (5 * k % 16) 0 := ⟨_, rfl⟩
    rw [← hv] at hc hb S1 S2
    have HV := Lib.hid hv
    clear hv
    obtain ⟨hb1, hb2⟩ := hb
    have i0 : (0 : Int) ≤ (k : Int) := by omega
    have i1 : (0 : Int) ≤ 5 * (k : Int) % 16 := by omega
    have i2 : 5 * (k : Int) % 16 < 16 := by omega
    go_wp2
    go_roundw
    case rel => exact ⟨k + 1, by omega, by go_num, S1.out, S2.out⟩
    case measure => simp [intOf]; omega
  · have hz : k = 20 := by omega
    subst hz
    have hlt0 : w.heap.size < ((w.alloc (.cells #[.slice none 0 0, .slice none 0 0, .slice none 0 0] 28)).alloc (.cells zeros16 3)).heap.size := by simp; omega
    have hsz : w.heap.size + 1 < wr.heap.size := by have := hg.out.size; simp at this; omega
    have hblk : wr.heap[w.heap.size]? = some (.cells #[.slice none 0 0, .slice none 0 0, .slice none 0 0] 28) := by
     rw [hg.out.block w.heap.size hlt0 (by simp), Below.heap_alloc _ _ _ (by simp)]
     exact heap_alloc_new w _
    have q0 : ∀ j, (wr.alloc (.cells #[.int .i64 0, .int .i64 0, .int .i64 0, .int .i64 0] 3)).cell? ⟨w.heap.size, j, none⟩ = (#[Value.slice none 0 0, Value.slice none 0 0, Value.slice none 0 0] : Array Value)[j]? := fun j => by
     rw [World.cell?_alloc_lt _ _ _ (by simp; omega)]
     exact cell_of_row wr w.heap.size j _ 28 (0, 0) hblk
    have qf : ∀ j, (wr.alloc (.cells #[.int .i64 0, .int .i64 0, .int .i64 0, .int .i64 0] 3)).frozen? ⟨w.heap.size, j, none⟩ = false := fun j => by
     rw [World.frozen?_alloc_old _ _ _ (by simp; omega)]
     exact frozen_of_row wr w.heap.size j _ 28 hblk
    have c0 := q0 0
    have c1 := q0 1
    have c2 := q0 2
    have f0 := qf 0
    have f1 := qf 1
    have f2 := qf 2
    simp at c0 c1 c2
    have HB := Lib.hid hblk
    clear q0 qf hlt0 hblk
    go_wp2
    go_light
    refine bodyPost_ret (v := gameV none 0 0 (some ⟨w.heap.size + 1, 0, none⟩) 16 16 (some ⟨wr.heap.size, 0, none⟩) 4 4) (by simp [results, Try.results12, go_sem, c0, c1, c2]) rfl ?_
    have hne : wr.heap.size ≠ w.heap.size := by omega
    have G := grownBy_set3 (wr.alloc (.cells #[.int .i64 0, .int .i64 0, .int .i64 0, .int .i64 0] 3)) w.heap.size (.slice none 0 0) (.slice (some ⟨w.heap.size + 1, 0, none⟩) 16 16) (.slice (some ⟨wr.heap.size, 0, none⟩) 4 4)
    have hown4 := World.ownsRow_lit (base := w.heap.size) (e := 3) (size := 1) wr #[.int .i64 0, .int .i64 0, .int .i64 0, .int .i64 0] 4 (by omega) (by unfold maxLen; omega) rfl
    refine ⟨some ⟨w.heap.size + 1, 0, none⟩, 16, some ⟨wr.heap.size, 0, none⟩, 4, rfl, ⟨World.ownsRow_nil _ _ _ _, ?_, ?_, ?_, ?_, ?_, ?_⟩, ?_⟩
    · exact (own_base (ho.out.alloc _) (by omega)).kept G (.inr (by simp [Value.ownBlock]))
    · exact hown4.kept G (.inr (by simp [Value.ownBlock]; omega))
    · intro g hg; simp [Value.ownBlock] at hg ⊢; omega
    · intro g hg; simp [Value.ownBlock] at hg
    · intro g hg; simp [Value.ownBlock] at hg; subst hg; have := G.size; simp at this ⊢; omega
    · intro g hg; simp [Value.ownBlock] at hg; subst hg; have := G.size; simp at this ⊢
    · refine Below.trans (((Below.refl _ _).alloc (Nat.le_refl _) _).alloc (by simp) _) (Below.trans (Below.of_grown hg.out (by simp; omega) (by rintro k hk; cases hk; omega)) ?_)
      exact ((Below.refl _ _).alloc (by omega) _).trans (Below.of_grown G (by simp; omega) (by rintro k hk; cases hk; omega))
end Go.Proofs.Ytagjkngiijmokaa

/- The model's new game. -/
namespace Go.Proofs.Ytagjkngiijmokaa
open Go.ChangeShapes Go.WideShapes Go.ChangeAt Go.RowKit
set_option linter.unusedVariables false

def NewMid (w : World) (p : Value) (wx : World) : Prop :=
 ∃ G g4 gl : Nat, p = .pointer (some ⟨G, 0, none⟩) ∧ wx.heap[G]? = some (.cells #[.slice none 0 0, .slice (some ⟨g4, 0, none⟩) 16 16, .slice (some ⟨gl, 0, none⟩) 4 4] 28) ∧ wx.heap[w.heap.size]? = some (.cells #[.slice none 0 0, .slice none 0 0, .slice none 0 0] 28) ∧
  wx.ownsRow (w.heap.size + 1) 3 1 (.slice (some ⟨g4, 0, none⟩) 16 16) 16 (ints (floorAt 0)) ∧ wx.ownsRow (w.heap.size + 1) 3 1 (.slice (some ⟨gl, 0, none⟩) 4 4) 4 (ints [0, 0, 0, 0]) ∧ g4 ≠ gl ∧ w.heap.size < G ∧ Below w.heap.size w wx

theorem grownBy_drew {w w' : World} {row : Option Nat} (h : w.grownBy w' row) : w.grownBy w'.drew row := ⟨h.os, h.tape, h.output, h.size, h.block⟩

theorem own_ne_block {w : World} {base g G : Nat} {e t : TypeId} {size n c : Nat} {xs : List Value} {cs : Array Value} (h : w.ownsRow base e size (.slice (some ⟨g, 0, none⟩) n c) n xs) (hG : w.heap[G]? = some (.cells cs t)) (hne : e ≠ t) : G ≠ g := by
 rintro rfl
 rcases h.2 with ⟨h', _⟩ | ⟨g', cap', cur, h', _, hg, _⟩
 · simp at h'
 · simp only [Value.slice.injEq, Option.some.injEq, Addr.mk.injEq, and_true, true_and] at h'
   obtain ⟨rfl, rfl⟩ := h'
   rw [hG] at hg
   simp only [Option.some.injEq, Obj.cells.injEq] at hg
   exact hne hg.2.1.symm

set_option maxRecDepth 100000 in
theorem l2New (w : World) :
 Calls Try.prog 42 #[] w (NewAt w) := by
 have m16 : ∀ w : World, (Instr.makeSlice 26 (.int .i64 16) (.int .i64 16)).run Try.prog w = .ok (.slice (some ⟨w.heap.size, 0, none⟩) 16 16) (w.alloc (.cells zeros16 3)) := make16
 have m4 := make4
 go_enter Try.func42, Try.ntmps42
 go_upto_region 1 with fail
 go_cut [1] (fun p wx => NewMid w p wx)
 case first =>
  go_region
  all_goals go_wp2_with fail
  all_goals go_meet
  all_goals
   apply Exists.intro
   apply Exists.intro
   apply Exists.intro
   refine ⟨rfl, ?_, ?_, ?_, ?_, ?_, ?_, ?_⟩
   · exact (by first | exact (four_at _ _ _ _ _).2.1 | exact (four_at _ _ _ _ _).2.2.1 | exact (four_at _ _ _ _ _).2.2.2)
   · exact (four_at _ _ _ _ _).1
   · exact own_of_block (cur := zeros16) (by first | exact (four_at _ _ _ _ _).2.1 | exact (four_at _ _ _ _ _).2.2.1 | exact (four_at _ _ _ _ _).2.2.2) (by omega) (by unfold maxLen; omega) rfl rfl
   · exact own_of_block (cur := #[.int .i64 0, .int .i64 0, .int .i64 0, .int .i64 0]) (by first | exact (four_at _ _ _ _ _).2.1 | exact (four_at _ _ _ _ _).2.2.1 | exact (four_at _ _ _ _ _).2.2.2) (by omega) (by unfold maxLen; omega) rfl rfl
   · omega
   · omega
   · exact below_four _ _ _ _ _
 case rest =>
  obtain ⟨G, g4, gl, rfl, hG, hR, ho, hl, hne, hlt, hb⟩ := hcut
  have hlg : gl ≥ w.heap.size + 1 ∧ gl < wc.heap.size := hl.lt gl rfl
  have hGne : G ≠ g4 := own_ne_block ho hG (by decide)
  have hGlt : G < wc.heap.size := by
   rcases Nat.lt_or_ge G wc.heap.size with h | h
   · exact h
   · rw [Array.getElem?_eq_none h] at hG; cases hG
  have HG := Lib.hid hG
  have HR := Lib.hid hR
  have HO := Lib.hid ho
  have HL := Lib.hid hl
  have HB := Lib.hid hb
  have HN := Lib.hid hne
  have cG : ∀ j, wc.cell? ⟨G, j, none⟩ = (#[Value.slice none 0 0, Value.slice (some ⟨g4, 0, none⟩) 16 16, Value.slice (some ⟨gl, 0, none⟩) 4 4] : Array Value)[j]? := fun j => cell_of_row wc G j _ 28 (0, 0) HG.out
  clear hG hR ho hl hb hne
  go_wp2_with (fail)
  go_loopw [2] (fun i wr => ∃ k : Nat, k ≤ 20 ∧ i = .int .i64 k ∧ Hid (wr.ownsRow (w.heap.size + 1) 3 1 (.slice (some ⟨g4, 0, none⟩) 16 16) 16 (ints (floorAt k))) ∧ Hid (wc.grownBy wr (some g4))) (fun i _ => 20 - (intOf i).toNat)
  case atStart => exact ⟨0, Nat.zero_le _, rfl, HO.out, World.grownBy.refl _ _⟩
  case round =>
   obtain ⟨k, hk, rfl, ho, hg⟩ := hrel
   have cG' : ∀ j, wr.cell? ⟨G, j, none⟩ = (#[Value.slice none 0 0, Value.slice (some ⟨g4, 0, none⟩) 16 16, Value.slice (some ⟨gl, 0, none⟩) 4 4] : Array Value)[j]? := fun j =>
    (World.cell?_of_block (w := wc) (a := ⟨G, j, none⟩) (hg.out.block G hGlt (by simpa using hGne))).trans (cG j)
   by_cases hlt2 : k < 20
   · have hb := floorAt_bd k hlt2
     rw [show 5 * k = k * 5 from Nat.mul_comm _ _] at hb
     have hc : wr.cell? ⟨g4, k * 5 % 16, none⟩ = some (.int .i64 ((floorAt k).getD (k * 5 % 16) 0)) := by
      rw [ho.out.cellAt _ (by omega), List.getElem?_map, List.getElem?_eq_getElem (by rw [floorAt_length]; omega)]
      simp [List.getD_eq_getElem?_getD, List.getElem?_eq_getElem (show k * 5 % 16 < (floorAt k).length by rw [floorAt_length]; omega)]
     have hf := ho.out.frozenAt (k * 5 % 16)
     have hst := ho.out.stored (k * 5 % 16) (.int .i64 ((floorAt k).getD (k * 5 % 16) 0 + 1))
     rw [show (ints (floorAt k)).set (k * 5 % 16) (.int .i64 ((floorAt k).getD (k * 5 % 16) 0 + 1)) = ints (floorAt (k + 1)) from by rw [floorAt, ints, ints, List.map_set, Nat.mul_comm]] at hst
     have S1 := Lib.hid hst.1
     have S2 := Lib.hid (grownBy_trans hg.out hst.2)
     clear hst
     obtain ⟨v, hv⟩ : ∃ v, v = (floorAt k).getD (k * 5 % 16) 0 := ⟨_, rfl⟩
     rw [← hv] at hc hb S1 S2
     have HV := Lib.hid hv
     clear hv
     obtain ⟨hb1, hb2⟩ := hb
     have i0 : (0 : Int) ≤ (k : Int) := by omega
     have i1 : (0 : Int) ≤ (k : Int) * 5 % 16 := by omega
     have i2 : (k : Int) * 5 % 16 < 16 := by omega
     have g1 := cG' 1
     simp at g1
     clear cG cG'
     go_wp2_with (fail)
     go_region
     go_wp2
     go_roundw
     case rel => exact ⟨k + 1, by omega, by go_num, S1.out, grownBy_drew S2.out⟩
     case measure => simp [intOf]; omega
   · have hz : k = 20 := by omega
     subst hz
     have hR : wr.heap[w.heap.size]? = some (.cells #[.slice none 0 0, .slice none 0 0, .slice none 0 0] 28) :=
      (hg.out.block w.heap.size (by omega) (by have := (HO.out.lt g4 rfl).1; simp; omega)).trans HR.out
     have cR : ∀ j, wr.cell? ⟨w.heap.size, j, none⟩ = (#[Value.slice none 0 0, Value.slice none 0 0, Value.slice none 0 0] : Array Value)[j]? := fun j => cell_of_row wr w.heap.size j _ 28 (0, 0) hR
     have fR : ∀ j, wr.frozen? ⟨w.heap.size, j, none⟩ = false := fun j => frozen_of_row wr w.heap.size j _ 28 hR
     have g0 := cG' 0; have g1 := cG' 1; have g2 := cG' 2
     have r0 := cR 0; have r1 := cR 1; have r2 := cR 2
     have f0 := fR 0; have f1 := fR 1; have f2 := fR 2
     simp at g0 g1 g2 r0 r1 r2
     have HRR := Lib.hid hR
     clear cG cG' cR fR hR
     go_wp2
     go_light
     have G := grownBy_set3 wr w.heap.size (.slice none 0 0) (.slice (some ⟨g4, 0, none⟩) 16 16) (.slice (some ⟨gl, 0, none⟩) 4 4)
     have hg4 := HO.out.lt g4 rfl
     refine bodyPost_ret (v := gameV none 0 0 (some ⟨g4, 0, none⟩) 16 16 (some ⟨gl, 0, none⟩) 4 4) (by simp [results, Try.results42, go_sem, r0, r1, r2]) rfl ?_
     have hs := hg.out.size
     have hs2 := G.size
     refine ⟨some ⟨g4, 0, none⟩, 16, some ⟨gl, 0, none⟩, 4, rfl, ⟨World.ownsRow_nil _ _ _ _, ?_, ?_, ?_, ?_, ?_, ?_⟩, ?_⟩
     · exact (own_base ho.out (by omega)).kept G (.inr (by simp [Value.ownBlock]; omega))
     · exact (own_base (HL.out.kept hg.out (.inr (by simp [Value.ownBlock]; exact fun e => HN.out e.symm))) (by omega)).kept G (.inr (by simp [Value.ownBlock]; omega))
     · intro g hg; simp [Value.ownBlock] at hg ⊢; have := HN.out; omega
     · intro g hg; simp [Value.ownBlock] at hg
     · intro g hg; simp [Value.ownBlock] at hg; omega
     · intro g hg; simp [Value.ownBlock] at hg; omega
     · exact Below.trans HB.out (Below.trans (Below.of_grown hg.out (by omega) (by rintro k hk; cases hk; omega)) (Below.of_grown G (by omega) (by rintro k hk; cases hk; omega)))

theorem res_block {w w1 : World} {cs : Array Value} {t : TypeId} (hb : Below (w.alloc (.cells cs t)).heap.size (w.alloc (.cells cs t)) w1) : w1.heap[w.heap.size]? = some (.cells cs t) :=
 (hb.block w.heap.size (by simp)).trans (heap_alloc_new w _)

set_option maxRecDepth 100000 in
theorem specGameNew (w : World) :
 Calls Try.prog 13 #[] w (NewAt w) := by
 go_enter Try.func13, Try.ntmps13
 go_wp2_with (fail)
 refine (l2New _).mono ?_
 rintro e w1 ⟨B, b, C, c, rfl, hg, hb⟩
 have hR := res_block hb
 have cR : ∀ j, w1.cell? ⟨w.heap.size, j, none⟩ = (#[Value.slice none 0 0, Value.slice none 0 0, Value.slice none 0 0] : Array Value)[j]? := fun j => cell_of_row w1 w.heap.size j _ 28 (0, 0) hR
 have fR : ∀ j, w1.frozen? ⟨w.heap.size, j, none⟩ = false := fun j => frozen_of_row w1 w.heap.size j _ 28 hR
 have r0 := cR 0; have r1 := cR 1; have r2 := cR 2
 have f0 := fR 0; have f1 := fR 1; have f2 := fR 2
 simp at r0 r1 r2
 have HG := Lib.hid hg
 have HB := Lib.hid hb
 have HR := Lib.hid hR
 clear hg hb cR fR hR
 go_wp2
 go_light
 have G := grownBy_set3 w1 w.heap.size (.slice none 0 0) (.slice B 16 b) (.slice C 4 c)
 refine bodyPost_ret (v := gameV none 0 0 B 16 b C 4 c) (by simp [results, Try.results13, go_sem, r0, r1, r2]) rfl ?_
 have hs := HB.out.size
 have hs2 := G.size
 simp at hs
 refine ⟨B, b, C, c, rfl, ?_, ?_⟩
 · have h1 := HG.out.keeps (Keeps.of_grown (lo := w.heap.size) (hi := w.heap.size + 1) G (by rintro k hk; cases hk; omega)) (.inr (by simp))
   exact ⟨own_base h1.ents (by simp), own_base h1.floor (by simp), own_base h1.last (by simp), h1.two, fun g hg => Nat.lt_of_lt_of_le (h1.entsHi g hg) hs2, fun g hg => Nat.lt_of_lt_of_le (h1.floorHi g hg) hs2, fun g hg => Nat.lt_of_lt_of_le (h1.lastHi g hg) hs2⟩
 · exact Below.trans ((Below.refl _ _).alloc (Nat.le_refl _) _) (Below.trans (HB.out.mono (by simp)) (Below.of_grown G (by omega) (by rintro k hk; cases hk; omega)))
end Go.Proofs.Ytagjkngiijmokaa

/- What came in, made the program's own. -/
namespace Go.Proofs.Ytagjkngiijmokaa
open Go.ChangeShapes Go.WideShapes Go.ChangeAt Go.RowKit
set_option linter.unusedVariables false

theorem info3 : (Try.prog.info? 3).map (fun i => (i.zero, i.size, i.bytes)) = some (some (.int .i64 0), 1, 8) := by kernel_rfl
theorem info75 : (Try.prog.info? 59).map (fun i => (i.zero, i.size, i.bytes)) = some (some (.agg #[.int .i64 0, .int .i64 0, .int .i64 0, .int .i64 0, .int .i64 0]), 5, 40) := by kernel_rfl

set_option maxRecDepth 100000 in
theorem toIntS (A : Option Addr) (c : Nat) (l : List Int) (w : World) (hl : l.length ≤ 1048576) (h : InI w A l) :
 Calls Try.prog 48 #[.slice A l.length c] w fun e w' => ∃ g, e = .returned (.slice (some ⟨g, 0, none⟩) l.length l.length) ∧ g = w.heap.size ∧ w'.ownsRow w.heap.size 3 1 (.slice (some ⟨g, 0, none⟩) l.length l.length) l.length (ints l) ∧ Below w.heap.size w w' := by
 obtain ⟨i0, hi, hz0, hz1, hz2⟩ := info_parts info3
 obtain ⟨w1, hmk, hown, hg1⟩ := run_make_full (P := Try.prog) w w.heap.size 26 3 i0 (.int .i64 0) 1 Try.underlying26 hi hz0 hz1 .i64 .i64 l.length (by rw [hz2]; omega) (by unfold maxLen; omega) (Nat.le_refl _)
 have B1 := Below.of_none hg1
 have hx : l.length = ((madeCells (Value.int .i64 0).cells (l.length * 1)).toList).length := by have := hown.1; omega
 generalize (madeCells (Value.int .i64 0).cells (l.length * 1)).toList = xs at hown hx
 have HI := Lib.hid h
 have HX := Lib.hid hx
 have HO := Lib.hid hown
 have HB := Lib.hid B1
 clear h hx hown hg1 B1 hi hz0 hz1 hz2
 go_enter Try.func48, Try.ntmps48
 go_wp2
 go_loopw [4] (fun i wr => ∃ j : Nat, j ≤ l.length ∧ i = .int .i64 j ∧ Hid (wr.ownsRow w.heap.size 3 1 (.slice (some ⟨w.heap.size, 0, none⟩) l.length l.length) l.length (ints (l.take j) ++ xs.drop j)) ∧ Hid (w1.grownBy wr (some w.heap.size))) (fun i _ => l.length - (intOf i).toNat)
 case atStart => exact ⟨0, Nat.zero_le _, rfl, by simpa [Hid, ints] using HO.out, World.grownBy.refl _ _⟩
 case round =>
  obtain ⟨j, hj, rfl, ho, hg⟩ := hrel
  by_cases hlt : j < l.length
  · obtain ⟨b, off, rfl, hc⟩ := HI.out j hlt
    have hblt := World.block_lt_of_cell? w _ hc
    have hc1 : wr.cell? ⟨b, off + j, none⟩ = some (.int .i64 l[j]) := hg.out.cell (cell_kept HB.out hc) (by simp at hblt ⊢; omega)
    have hst := ho.out.stored j (.int .i64 l[j])
    rw [set_next l xs j hlt HX.out] at hst
    have S1 := Lib.hid hst.1
    have S2 := Lib.hid (grownBy_trans hg.out hst.2)
    have hf := ho.out.frozenAt j
    obtain ⟨u, hu⟩ : ∃ u, wr.cell? ⟨w.heap.size, j, none⟩ = some u := ⟨_, (ho.out.cellAt j (by omega)).trans (List.getElem?_eq_getElem (by have := HX.out; simp; omega))⟩
    clear hst hc hblt
    generalize l[j] = v at hc1 S1 S2
    have i0 : (0 : Int) ≤ (j : Int) := by omega
    have i1 : (j : Int) < (l.length : Int) := by omega
    go_wp2
    go_roundw
    case rel => exact ⟨j + 1, by omega, by go_num, S1.out, S2.out⟩
    case measure => simp [intOf]; omega
  · have hz : j = l.length := by omega
    have HZ := Lib.hid hz
    clear hz
    go_wp2
    go_ret
    have := ho.out
    rw [HZ.out, List.take_length, List.drop_of_length_le (by have := HX.out; omega), List.append_nil] at this
    exact ⟨_, rfl, rfl, this, Below.trans HB.out (Below.of_grown hg.out HB.out.size (by rintro k hk; cases hk; omega))⟩

theorem toEnt (e : Fig) (w : World) :
 Calls Try.prog 72 #[e.val] w fun r w' => r = .returned e.val ∧ Below w.heap.size w w' := by
 obtain ⟨c, x, y, l, g⟩ := e
 go_enter Try.func72, Try.ntmps72
 go_wp2
 exact bodyPost_ret (v := .agg #[.int .i64 c, .int .i64 x, .int .i64 y, .int .i64 l, .int .i64 g]) (by simp [results, Try.results72, go_sem]) rfl ⟨rfl, (((Below.refl _ _).alloc (Nat.le_refl _) _).alloc (by simp) _).alloc (by simp; omega) _⟩

set_option maxRecDepth 100000 in
theorem toEntS (A : Option Addr) (c : Nat) (l : List Fig) (w : World) (hl : l.length ≤ 1048576) (h : InF w A l) :
 Calls Try.prog 47 #[.slice A l.length c] w fun e w' => ∃ g, e = .returned (.slice (some ⟨g, 0, none⟩) l.length l.length) ∧ g = w.heap.size ∧ w'.ownsRow w.heap.size 59 5 (.slice (some ⟨g, 0, none⟩) l.length l.length) l.length (figs l) ∧ Below w.heap.size w w' := by
 obtain ⟨i0, hi, hz0, hz1, hz2⟩ := info_parts info75
 obtain ⟨w1, hmk, hown, hg1⟩ := run_make_full (P := Try.prog) w w.heap.size 25 59 i0 _ 5 Try.underlying25 hi hz0 hz1 .i64 .i64 l.length (by rw [hz2]; omega) (by unfold maxLen; omega) (Nat.le_refl _)
 have B1 := Below.of_none hg1
 have hx : l.length * 5 = ((madeCells (Value.agg #[.int .i64 0, .int .i64 0, .int .i64 0, .int .i64 0, .int .i64 0]).cells (l.length * 5)).toList).length := by have := hown.1; omega
 generalize (madeCells (Value.agg #[.int .i64 0, .int .i64 0, .int .i64 0, .int .i64 0, .int .i64 0]).cells (l.length * 5)).toList = xs at hown hx
 have HI := Lib.hid h
 have HX := Lib.hid hx
 have HO := Lib.hid hown
 have HB := Lib.hid B1
 clear h hx hown hg1 B1 hi hz0 hz1 hz2
 go_enter Try.func47, Try.ntmps47
 go_wp2
 go_loopw [4] (fun i wr => ∃ j : Nat, j ≤ l.length ∧ i = .int .i64 j ∧ Hid (wr.ownsRow w.heap.size 59 5 (.slice (some ⟨w.heap.size, 0, none⟩) l.length l.length) l.length (figs (l.take j) ++ xs.drop (j * 5))) ∧ Hid (w1.grownBy wr (some w.heap.size))) (fun i _ => l.length - (intOf i).toNat)
 case atStart => exact ⟨0, Nat.zero_le _, rfl, by simpa [Hid, figs] using HO.out, World.grownBy.refl _ _⟩
 case round =>
  obtain ⟨j, hj, rfl, ho, hg⟩ := hrel
  by_cases hlt : j < l.length
  · obtain ⟨b, off, rfl, c0, c1, c2, c3, c4⟩ := HI.out j hlt
    have hblt := World.block_lt_of_cell? w _ c0
    have keep : ∀ {o : Nat} {u : Value}, w.cell? ⟨b, o, none⟩ = some u → wr.cell? ⟨b, o, none⟩ = some u := fun hc => hg.out.cell (cell_kept HB.out hc) (by simp at hblt ⊢; omega)
    replace c0 := keep c0; replace c1 := keep c1; replace c2 := keep c2; replace c3 := keep c3; replace c4 := keep c4
    clear keep hblt
    have i0 : (0 : Int) ≤ (j : Int) := by omega
    have i1 : (j : Int) < (l.length : Int) := by omega
    go_wp2_with (fail)
    refine (toEnt l[j] wr).mono ?_
    rintro r w2 ⟨rfl, h2⟩
    have ho2 := own_below ho.out h2
    have hf := fun p => ho2.frozenAt p
    have hc : ∀ p, p < 5 → ∃ u, w2.cell? ⟨w.heap.size, j * 5 + p, none⟩ = some u := fun p hp => ⟨_, (ho2.cellAt (j * 5 + p) (by omega)).trans (List.getElem?_eq_getElem (by have := HX.out; simp [figs_length]; omega))⟩
    obtain ⟨v0, hv0⟩ := hc 0 (by omega)
    obtain ⟨v1, hv1⟩ := hc 1 (by omega)
    obtain ⟨v2, hv2⟩ := hc 2 (by omega)
    obtain ⟨v3, hv3⟩ := hc 3 (by omega)
    obtain ⟨v4, hv4⟩ := hc 4 (by omega)
    rw [Nat.add_zero] at hv0
    obtain ⟨s1, s2⟩ := store5 j hlt HX.out ho2
    have S1 := Lib.hid s1
    have S2 := Lib.hid (grownBy_trans hg.out (grownBy_trans (Below.grownBy h2 _) s2))
    clear s1 s2 hc h2 ho2 c0 c1 c2 c3 c4
    go_wp2
    go_roundw
    case rel => exact ⟨j + 1, by omega, by go_num, S1.out, S2.out⟩
    case measure => simp [intOf]; omega
  · have hz : j = l.length := by omega
    have HZ := Lib.hid hz
    clear hz
    go_wp2
    go_ret
    have := ho.out
    rw [HZ.out, List.take_length, List.drop_of_length_le (by have := HX.out; omega), List.append_nil] at this
    exact ⟨_, rfl, rfl, this, Below.trans HB.out (Below.of_grown hg.out HB.out.size (by rintro k hk; cases hk; omega))⟩

/-- A game that came in, in the program's own rows. -/
def OwnGame (w : World) (E : List Fig) (F L : List Int) (e : Ending) (w' : World) : Prop :=
 ∃ A a B b C c, e = .returned (gameV A E.length a B F.length b C L.length c) ∧ GameAt w' w.heap.size w'.heap.size A a B b C c E F L ∧ Below w.heap.size w w'

set_option maxRecDepth 100000 in
theorem toGame (A : Option Addr) (a : Nat) (B : Option Addr) (b : Nat) (C : Option Addr) (c : Nat) (E : List Fig) (F L : List Int) (w : World) (hE : E.length ≤ 1048576) (hF : F.length ≤ 1048576) (hL : L.length ≤ 1048576)
 (r1 : InF w A E) (r2 : InI w B F) (r3 : InI w C L) :
 Calls Try.prog 16 #[gameV A E.length a B F.length b C L.length c] w (OwnGame w E F L) := by
 have H1 := Lib.hid r1
 have H2 := Lib.hid r2
 have H3 := Lib.hid r3
 clear r1 r2 r3
 go_enter Try.func16, Try.ntmps16
 go_wp2_with (fail)
 have b0 := ((Three.new (u0 := .slice A E.length a) (u1 := .slice B F.length b) (u2 := .slice C L.length c) (t := 40) w).alloc (.cells #[.slice none 0 0, .slice none 0 0, .slice none 0 0] 28)).alloc (.cells #[.slice none 0 0, .slice none 0 0, .slice none 0 0] 28)
 have b1 := (Three.new (u0 := .slice none 0 0) (u1 := .slice none 0 0) (u2 := .slice none 0 0) (t := 28) (w.alloc (.cells #[.slice A E.length a, .slice B F.length b, .slice C L.length c] 40))).alloc (.cells #[.slice none 0 0, .slice none 0 0, .slice none 0 0] 28)
 have b2 := Three.new (u0 := .slice none 0 0) (u1 := .slice none 0 0) (u2 := .slice none 0 0) (t := 28) ((w.alloc (.cells #[.slice A E.length a, .slice B F.length b, .slice C L.length c] 40)).alloc (.cells #[.slice none 0 0, .slice none 0 0, .slice none 0 0] 28))
 have z0 : Below w.heap.size w (((w.alloc (.cells #[.slice A E.length a, .slice B F.length b, .slice C L.length c] 40)).alloc (.cells #[.slice none 0 0, .slice none 0 0, .slice none 0 0] 28)).alloc (.cells #[.slice none 0 0, .slice none 0 0, .slice none 0 0] 28)) :=
  (((Below.refl _ _).alloc (Nat.le_refl _) _).alloc (by simp) _).alloc (by simp; omega) _
 have hz : (((w.alloc (.cells #[.slice A E.length a, .slice B F.length b, .slice C L.length c] 40)).alloc (.cells #[.slice none 0 0, .slice none 0 0, .slice none 0 0] 28)).alloc (.cells #[.slice none 0 0, .slice none 0 0, .slice none 0 0] 28)).heap.size = w.heap.size + 3 := by simp
 have i1 : (w.alloc (.cells #[.slice A E.length a, .slice B F.length b, .slice C L.length c] 40)).heap.size = w.heap.size + 1 := by simp
 have i2 : ((w.alloc (.cells #[.slice A E.length a, .slice B F.length b, .slice C L.length c] 40)).alloc (.cells #[.slice none 0 0, .slice none 0 0, .slice none 0 0] 28)).heap.size = w.heap.size + 1 + 1 := by simp
 rw [i1] at b1
 rw [i2] at b2
 have HZ := Lib.hid hz
 clear hz i1 i2
 -- the figures
 refine (toEntS A a E _ hE (H1.out.below z0)).mono ?_
 rintro e w1 ⟨g1, rfl, hg1, o1, h1⟩
 have hs1 := h1.size
 rw [HZ.out] at hg1 o1 h1 hs1
 have b0 := Three.below b0 h1 (by omega)
 have b1 := Three.below b1 h1 (by omega)
 have b2 := Three.below b2 h1 (by omega)
 have z1 := Below.trans z0 (h1.mono (by omega))
 obtain ⟨p0, p1, p2⟩ := b0.cells
 obtain ⟨q0, q1, q2⟩ := b2.cells
 have f0 := b2.frozen 0
 have B0 := Lib.hid b0; have B1 := Lib.hid b1; have B2 := Lib.hid b2; have Z1 := Lib.hid z1; have O1 := Lib.hid o1; have HG1 := Lib.hid hg1
 clear z0 z1 b0 b1 b2 h1 o1 hg1
 go_wp2_with (fail)
 have z1 := Below.setCell Z1.out (p := ⟨w.heap.size + 1 + 1, 0, none⟩) (by simp; omega) (.slice (some ⟨g1, 0, none⟩) E.length E.length)
 have o1 := O1.out.kept (grownBy_set w1 (w.heap.size + 1 + 1) 0 (.slice (some ⟨g1, 0, none⟩) E.length E.length)) (.inr (by have := HG1.out; simp [Value.ownBlock]; omega))
 have b0 := B0.out.far (g' := w.heap.size + 1 + 1) (j := 0) (by omega) (.slice (some ⟨g1, 0, none⟩) E.length E.length)
 have b1 := B1.out.far (g' := w.heap.size + 1 + 1) (j := 0) (by omega) (.slice (some ⟨g1, 0, none⟩) E.length E.length)
 have b2 := B2.out.set0 (.slice (some ⟨g1, 0, none⟩) E.length E.length)
 have y1 : w1.heap.size = (w1.setCell ⟨w.heap.size + 1 + 1, 0, none⟩ (.slice (some ⟨g1, 0, none⟩) E.length E.length)).heap.size := by simp
 have Y1 := Lib.hid y1
 have hlt1 := (O1.out.lt g1 rfl).2
 clear y1 B0 B1 B2 Z1 O1 p0 p1 p2 q0 q1 q2 f0
 -- the floor
 refine (toIntS B b F _ hF (H2.out.below z1)).mono ?_
 rintro e w2 ⟨g2, rfl, hg2, o2, h2⟩
 have hs2 := h2.size
 rw [← Y1.out] at hg2 o2 h2 hs2
 have b0 := Three.below b0 h2 (by omega)
 have b1 := Three.below b1 h2 (by omega)
 have b2 := Three.below b2 h2 (by omega)
 have z2 := Below.trans z1 (h2.mono (by omega))
 have o1 := own_same o1 fun k hk => h2.block k (by have := HG1.out; simp [Value.ownBlock] at hk; omega)
 obtain ⟨p0, p1, p2⟩ := b0.cells
 obtain ⟨q0, q1, q2⟩ := b2.cells
 have f1 := b2.frozen 1
 have B0 := Lib.hid b0; have B1 := Lib.hid b1; have B2 := Lib.hid b2; have Z2 := Lib.hid z2; have O1 := Lib.hid o1; have O2 := Lib.hid o2; have HG2 := Lib.hid hg2
 clear z1 z2 b0 b1 b2 h2 o1 o2 hg2
 go_wp2_with (fail)
 have z2 := Below.setCell Z2.out (p := ⟨w.heap.size + 1 + 1, 1, none⟩) (by simp; omega) (.slice (some ⟨g2, 0, none⟩) F.length F.length)
 have o1 := O1.out.kept (grownBy_set w2 (w.heap.size + 1 + 1) 1 (.slice (some ⟨g2, 0, none⟩) F.length F.length)) (.inr (by have := HG1.out; simp [Value.ownBlock]; omega))
 have o2 := O2.out.kept (grownBy_set w2 (w.heap.size + 1 + 1) 1 (.slice (some ⟨g2, 0, none⟩) F.length F.length)) (.inr (by have := HG2.out; simp [Value.ownBlock]; omega))
 have b0 := B0.out.far (g' := w.heap.size + 1 + 1) (j := 1) (by omega) (.slice (some ⟨g2, 0, none⟩) F.length F.length)
 have b1 := B1.out.far (g' := w.heap.size + 1 + 1) (j := 1) (by omega) (.slice (some ⟨g2, 0, none⟩) F.length F.length)
 have b2 := B2.out.set1 (.slice (some ⟨g2, 0, none⟩) F.length F.length)
 have y2 : w2.heap.size = (w2.setCell ⟨w.heap.size + 1 + 1, 1, none⟩ (.slice (some ⟨g2, 0, none⟩) F.length F.length)).heap.size := by simp
 have Y2 := Lib.hid y2
 have hlt2 := (O2.out.lt g2 rfl).2
 clear y2 B0 B1 B2 Z2 O1 O2 p0 p1 p2 q0 q1 q2 f1
 -- the last numbers
 refine (toIntS C c L _ hL (H3.out.below z2)).mono ?_
 rintro e w3 ⟨g3, rfl, hg3, o3, h3⟩
 have hs3 := h3.size
 rw [← Y2.out] at hg3 o3 h3 hs3
 have b0 := Three.below b0 h3 (by omega)
 have b1 := Three.below b1 h3 (by omega)
 have b2 := Three.below b2 h3 (by omega)
 have z3 := Below.trans z2 (h3.mono (by omega))
 have o1 := own_same o1 fun k hk => h3.block k (by have := HG1.out; simp [Value.ownBlock] at hk; omega)
 have o2 := own_same o2 fun k hk => h3.block k (by simp [Value.ownBlock] at hk; omega)
 obtain ⟨p0, p1, p2⟩ := b0.cells
 obtain ⟨q0, q1, q2⟩ := b2.cells
 obtain ⟨r0, r1, r2⟩ := b1.cells
 have f2 := b2.frozen 2
 have e0 := b1.frozen 0
 have e1 := b1.frozen 1
 have e2 := b1.frozen 2
 have B1 := Lib.hid b1; have B2 := Lib.hid b2; have Z3 := Lib.hid z3; have O1 := Lib.hid o1; have O2 := Lib.hid o2; have O3 := Lib.hid o3; have HG3 := Lib.hid hg3
 clear z2 z3 b0 b1 b2 h3 o1 o2 o3 hg3
 go_wp2
 go_light
 refine bodyPost_ret (v := gameV (some ⟨g1, 0, none⟩) E.length E.length (some ⟨g2, 0, none⟩) F.length F.length (some ⟨g3, 0, none⟩) L.length L.length) (by simp [results, Try.results16, go_sem, r0, r1, r2]) rfl ?_
 have G := grownBy_trans (row := some (w.heap.size + 1)) (grownBy_set3 (w3.setCell ⟨w.heap.size + 1 + 1, 2, none⟩ (.slice (some ⟨g3, 0, none⟩) L.length L.length)) (w.heap.size + 1) (.slice (some ⟨g1, 0, none⟩) E.length E.length) (.slice (some ⟨g2, 0, none⟩) F.length F.length) (.slice (some ⟨g3, 0, none⟩) L.length L.length)) (World.grownBy.refl _ _)
 have G2 := grownBy_set w3 (w.heap.size + 1 + 1) 2 (.slice (some ⟨g3, 0, none⟩) L.length L.length)
 have k1 := HG1.out
 have k2 := HG2.out
 have k3 := HG3.out
 have hs4 := G.size
 have hs5 := G2.size
 have hlt3 := (O3.out.lt g3 rfl).2
 refine ⟨some ⟨g1, 0, none⟩, E.length, some ⟨g2, 0, none⟩, F.length, some ⟨g3, 0, none⟩, L.length, rfl, ⟨?_, ?_, ?_, ?_, ?_, ?_, ?_⟩, ?_⟩
 · exact own_base ((O1.out.kept G2 (.inr (by simp [Value.ownBlock]; omega))).kept G (.inr (by simp [Value.ownBlock]; omega))) (by omega)
 · exact own_base ((O2.out.kept G2 (.inr (by simp [Value.ownBlock]; omega))).kept G (.inr (by simp [Value.ownBlock]; omega))) (by omega)
 · exact own_base ((O3.out.kept G2 (.inr (by simp [Value.ownBlock]; omega))).kept G (.inr (by simp [Value.ownBlock]; omega))) (by omega)
 · intro g hg; simp [Value.ownBlock] at hg ⊢; omega
 · intro g hg; simp [Value.ownBlock] at hg; omega
 · intro g hg; simp [Value.ownBlock] at hg; omega
 · intro g hg; simp [Value.ownBlock] at hg; omega
 · exact Below.trans Z3.out (Below.trans (Below.of_grown G2 (by omega) (by rintro k hk; cases hk; omega)) (Below.of_grown G (by omega) (by rintro k hk; cases hk; omega)))
end Go.Proofs.Ytagjkngiijmokaa

/- The size of what came in; a game that came in, opened. -/
namespace Go.Proofs.Ytagjkngiijmokaa
open Go.ChangeShapes Go.WideShapes Go.ChangeAt Go.RowKit
set_option linter.unusedVariables false

theorem szEntS (A : Option Addr) (n c : Nat) (left : Int) (w : World) (hn : n ≤ maxLen) (h0 : 0 ≤ left) (h1 : left ≤ 1048576) :
 Calls Try.prog 43 #[.slice A n c, .int .i64 left] w fun e w' => e = .returned (.int .i64 (if left - n < 0 then -1 else left - n)) ∧ w = w' := by
 unfold maxLen at hn
 go_enter Try.func43, Try.ntmps43
 by_cases h : left - (n : Int) < 0
 all_goals go_wp2
 all_goals go_ret
 all_goals first | exact ⟨rfl, rfl⟩ | exact ⟨ret_int (if_pos h).symm, rfl⟩ | exact ⟨ret_int (if_neg h).symm, rfl⟩

theorem szIntS (A : Option Addr) (n c : Nat) (left : Int) (w : World) (hn : n ≤ maxLen) (h0 : 0 ≤ left) (h1 : left ≤ 1048576) :
 Calls Try.prog 44 #[.slice A n c, .int .i64 left] w fun e w' => e = .returned (.int .i64 (if left - n < 0 then -1 else left - n)) ∧ w = w' := by
 unfold maxLen at hn
 go_enter Try.func44, Try.ntmps44
 by_cases h : left - (n : Int) < 0
 all_goals go_wp2
 all_goals go_ret
 all_goals first | exact ⟨rfl, rfl⟩ | exact ⟨ret_int (if_pos h).symm, rfl⟩ | exact ⟨ret_int (if_neg h).symm, rfl⟩

def szOf (n m l : Nat) : Int := if n + m + l ≤ 1048576 then 1048576 - (n : Int) - (m : Int) - (l : Int) else -1

theorem szGame (A : Option Addr) (n a : Nat) (B : Option Addr) (m b : Nat) (C : Option Addr) (l c : Nat) (w : World) (hn : n ≤ maxLen) (hm : m ≤ maxLen) (hl : l ≤ maxLen) :
 Calls Try.prog 14 #[gameV A n a B m b C l c, .int .i64 1048576] w fun e w' => e = .returned (.int .i64 (szOf n m l)) ∧ Below w.heap.size w w' := by
 go_enter Try.func14, Try.ntmps14
 go_wp2_with (fail)
 refine (szEntS A n a 1048576 _ hn (by omega) (by omega)).mono ?_
 rintro e w1 ⟨rfl, rfl⟩
 by_cases h1 : (1048576 : Int) - n < 0
 · rw [if_pos h1]
   go_wp2
   go_light
   go_ret
   exact ⟨ret_int (by unfold szOf; rw [if_neg (by omega)]), (Below.refl _ _).alloc (Nat.le_refl _) _⟩
 rw [if_neg h1]
 have d1 : decide ((1048576 : Int) - n < 0) = false := by simp; omega
 go_wp2_with (fail)
 refine (szIntS B m b (1048576 - n) _ hm (by omega) (by omega)).mono ?_
 rintro e w1 ⟨rfl, rfl⟩
 by_cases h2 : (1048576 : Int) - n - m < 0
 · rw [if_pos h2]
   go_wp2
   go_light
   go_ret
   exact ⟨ret_int (by unfold szOf; rw [if_neg (by omega)]), (Below.refl _ _).alloc (Nat.le_refl _) _⟩
 rw [if_neg h2]
 have d2 : decide ((1048576 : Int) - n - m < 0) = false := by simp; omega
 go_wp2_with (fail)
 refine (szIntS C l c (1048576 - n - m) _ hl (by omega) (by omega)).mono ?_
 rintro e w1 ⟨rfl, rfl⟩
 by_cases h3 : (1048576 : Int) - n - m - l < 0
 · rw [if_pos h3]
   go_wp2
   go_light
   go_ret
   exact ⟨ret_int (by unfold szOf; rw [if_neg (by omega)]), (Below.refl _ _).alloc (Nat.le_refl _) _⟩
 rw [if_neg h3]
 have d3 : decide ((1048576 : Int) - n - m - l < 0) = false := by simp; omega
 go_wp2
 go_light
 go_ret
 exact ⟨ret_int (by unfold szOf; rw [if_pos (by omega)]), (Below.refl _ _).alloc (Nat.le_refl _) _⟩

section
variable {H : Type} {enc : TypeId × Value → H} {w : World} {base : Nat} {spare : Nat → Bool} {held : Bool}

theorem addr_of {a : Addr} {u : Value} (h : w.cell? a = some u) : a = ⟨a.block, a.off, none⟩ := by
 obtain ⟨b, o, s⟩ := a
 unfold World.cell? at h
 split at h
 · cases s with
   | none => rfl
   | some _ => simp at h
 · cases h

theorem add_eq (b o n : Nat) : (⟨b, o, none⟩ : Addr).add n = ⟨b, o + n, none⟩ := by
 unfold Addr.add
 split
 · next h => subst h; rfl
 · rfl

/-- A slice of ints that came in. -/
theorem in_ints {t e : TypeId} {fuel : Nat} {cs : List Value} {x : DataW H × List MemPlace} (ht : Try.prog.underlying t = some (.slice e)) (he : Try.prog.underlying e = some (.int .i64)) (hc : Try.prog.cellsOf e = 1)
 (h : DataW.trod enc Try.prog w base spare held fuel t cs = some x) : ∃ (A : Option Addr) (c : Nat) (l : List Int), cs = [.slice A l.length c] ∧ l.length ≤ maxLen ∧ InI w A l := by
 rcases open_ints ht he hc h with ⟨rfl, _⟩ | ⟨a, len, cap, zs, rfl, _, hl, hm, hz, _, hcell, _⟩
 · exact ⟨none, 0, [], rfl, Nat.zero_le _, fun i hi => absurd hi (by simp)⟩
 · have hzl : len ≤ zs.length := by rw [hz]; split <;> omega
   refine ⟨some a, cap, zs.take len, by rw [List.length_take, Nat.min_eq_left hzl], by rw [List.length_take, Nat.min_eq_left hzl]; omega, fun i hi => ?_⟩
   rw [List.length_take, Nat.min_eq_left hzl] at hi
   have h0 := hcell 0 (by omega)
   rw [show a.add 0 = a from by simp [Addr.add]] at h0
   have ha := addr_of h0
   refine ⟨a.block, a.off, by rw [← ha], ?_⟩
   have hi' := hcell i (by omega)
   rw [ha, add_eq] at hi'
   rw [hi', List.getElem_take]
   simp [List.getD_eq_getElem?_getD, List.getElem?_eq_getElem (show i < zs.length by omega)]

/-- The cells of a struct whose fields are all ints. -/
theorem ints_of_cells {P : Program} {t : TypeId} {fs : Array Field} {fuel : Nat} {cl : List Value} {x : DataW H × List MemPlace} (hs : P.underlying t = some (.struct fs)) (hone : Go.Deep.oneCellFields P fs = true) (hcl : cl.length = fs.size)
 (hall : fs.toList.map (fun f => P.underlying f.type) = List.replicate fs.size (some (.int .i64))) (h : DataW.trod enc P w base spare held fuel t cl = some x) : ∃ l : List Int, cl = l.map (Value.int .i64) := by
 have hint : ∀ (i : Nat) (f : Field), fs[i]? = some f → P.underlying f.type = some (.int .i64) := by
  intro i f hf
  have h1 : (fs.toList.map (fun f => P.underlying f.type))[i]? = some (P.underlying f.type) := by
   rw [List.getElem?_map]
   simp [hf]
  rw [hall, List.getElem?_replicate] at h1
  split at h1
  · exact (Option.some.inj h1).symm
  · cases h1
 obtain ⟨xs, n, _, _, _, hlen, hg⟩ := DataW.trod_struct hs h
 have key : ∀ (i : Nat) (hi : i < cl.length), ∃ m : Int, cl[i] = .int .i64 m := by
  intro i hi
  have hfi : fs[i]? = some (fs[i]'(by omega)) := Array.getElem?_eq_getElem (by omega)
  obtain ⟨ho, hk⟩ := Go.Deep.hone_of hone i _ hfi
  have h1 := hg i _ hfi
  rw [ho, hk] at h1
  have h2 : (cl.drop i).take 1 = [cl[i]] := by
   rw [List.drop_eq_getElem_cons hi]
   rfl
  rw [h2, show xs[i]? = some (xs[i]'(by omega)) from List.getElem?_eq_getElem (by omega)] at h1
  obtain ⟨m, hm, _, _⟩ := DataW.trod_int (hint i _ hfi) h1
  exact ⟨m, by simpa using hm⟩
 refine ⟨cl.map intOf, ?_⟩
 rw [List.map_map]
 apply List.ext_getElem
 · simp
 · intro i h1 h2
   obtain ⟨m, hm⟩ := key i h1
   simp [hm, intOf]

theorem pick_list {α : Type} {Q : Nat → α → Prop} (n : Nat) (h : ∀ i, i < n → ∃ x, Q i x) : ∃ l : List α, l.length = n ∧ ∀ (i : Nat) (hi : i < l.length), Q i (l[i]'hi) := by
 induction n with
 | zero => exact ⟨[], rfl, fun i hi => absurd hi (by simp)⟩
 | succ k ih =>
  obtain ⟨l, hl, hat⟩ := ih fun i hi => h i (by omega)
  obtain ⟨x, hx⟩ := h k (by omega)
  refine ⟨l ++ [x], by simp [hl], fun i hi => ?_⟩
  rcases Nat.lt_or_ge i l.length with h1 | h1
  · rw [List.getElem_append_left h1]
    exact hat i h1
  · have hik : i = k := by simp at hi; omega
    subst hik
    rw [List.getElem_append_right h1]
    simpa using hx

/-- A slice of figures that came in. -/
theorem in_figs {t e : TypeId} {fs : Array Field} {fuel : Nat} {cs : List Value} {x : DataW H × List MemPlace} (ht : Try.prog.underlying t = some (.slice e)) (he : Try.prog.underlying e = some (.struct fs)) (hone : Go.Deep.oneCellFields Try.prog fs = true)
 (hsz : fs.size = 5) (hC : Try.prog.cellsOf e = 5) (hall : fs.toList.map (fun f => Try.prog.underlying f.type) = List.replicate fs.size (some (.int .i64)))
 (h : DataW.trod enc Try.prog w base spare held fuel t cs = some x) : ∃ (A : Option Addr) (c : Nat) (l : List Fig), cs = [.slice A l.length c] ∧ l.length ≤ maxLen ∧ InF w A l := by
 rcases Go.Deep.open_slice ht h with ⟨rfl, _⟩ | ⟨a, len, cap, m, n, D, Pl, rfl, _, hl, hm, hmm, _, hi⟩
 · exact ⟨none, 0, [], rfl, Nat.zero_le _, fun i hi => absurd hi (by simp)⟩
 · have hml : len ≤ m := by rw [hmm]; split <;> omega
   have each : ∀ i, i < len → ∃ f : Fig, ∀ (j : Nat) (u : Value), f.cells[j]? = some u → w.cell? (a.add (i * 5 + j)) = some u := by
    intro i hilt
    obtain ⟨cs', hcs, htr⟩ := hi i (by omega)
    rw [hC] at hcs
    obtain ⟨_, hlen, hat⟩ := World.cells?_some hcs
    obtain ⟨li, rfl⟩ := ints_of_cells he hone (by omega) hall htr
    obtain ⟨n0, n1, n2, n3, n4, rfl⟩ := five_of li (by simpa using hlen)
    refine ⟨⟨n0, n1, n2, n3, n4⟩, fun j u hu => ?_⟩
    have hj : j < 5 := by
     rcases Nat.lt_or_ge j 5 with h | h
     · exact h
     · rw [List.getElem?_eq_none (by simp [Fig.cells]; omega)] at hu; cases hu
    have := hat j hj
    rw [Go.Deep.add_add] at this
    rw [this]
    exact hu
   have hc0 : 0 < len → a = ⟨a.block, a.off, none⟩ := by
    intro h0
    obtain ⟨f, hf⟩ := each 0 h0
    have := hf 0 _ rfl
    rw [show a.add (0 * 5 + 0) = a from by simp [Addr.add]] at this
    exact addr_of this
   obtain ⟨E, hE, hat⟩ := pick_list len each
   refine ⟨some a, cap, E, by rw [hE], by omega, fun i hi' => ?_⟩
   have ha := hc0 (by omega)
   have c0 := hat i hi' 0 _ rfl
   have c1 := hat i hi' 1 _ rfl
   have c2 := hat i hi' 2 _ rfl
   have c3 := hat i hi' 3 _ rfl
   have c4 := hat i hi' 4 _ rfl
   rw [ha, add_eq] at c0 c1 c2 c3 c4
   exact ⟨a.block, a.off, by rw [← ha], c0, by rw [Nat.add_assoc]; exact c1, by rw [Nat.add_assoc]; exact c2, by rw [Nat.add_assoc]; exact c3, by rw [Nat.add_assoc]; exact c4⟩

set_option maxRecDepth 100000 in
/-- A game that came in. -/
theorem in_game {r : Reach} {b0 : Nat} {v : Value} {d : DataW H} {p : List MemPlace} (hv : Value.okWide Try.prog w r b0 40 v) (h : DataW.Trod enc Try.prog w base spare held 40 v d p) :
 ∃ A a B b C c, ∃ (E : List Fig) (F L : List Int), v = gameV A E.length a B F.length b C L.length c ∧ E.length ≤ maxLen ∧ F.length ≤ maxLen ∧ L.length ≤ maxLen ∧ InF w A E ∧ InI w B F ∧ InI w C L := by
 obtain ⟨v0, v1, v2, y0, y1, y2, n, rfl, _, _, h0, h1, h2⟩ := Go.Joins.open_agg3 Try.underlying40 (by kernel_rfl) (by kernel_rfl) hv h
 obtain ⟨A, a, E, hA, mE, rE⟩ := in_figs Try.underlying38 Try.underlying92 (by kernel_rfl) (by kernel_rfl) (by kernel_rfl) (by kernel_rfl) h0
 obtain ⟨B, b, F, hB, mF, rF⟩ := in_ints Try.underlying26 Try.underlying3 (by kernel_rfl) h1
 obtain ⟨C, c, L, hC, mL, rL⟩ := in_ints Try.underlying26 Try.underlying3 (by kernel_rfl) h2
 cases hA; cases hB; cases hC
 exact ⟨A, a, B, b, C, c, E, F, L, rfl, mE, mF, mL, rE, rF, rL⟩
end
end Go.Proofs.Ytagjkngiijmokaa

/- Whether a game is ok: the program's own check. -/
namespace Go.Proofs.Ytagjkngiijmokaa
open Go.ChangeShapes Go.WideShapes Go.ChangeAt Go.RowKit
set_option linter.unusedVariables false

def onB (x y : Int) : Bool := inB x 0 3 && inB y 0 3
def entB (e : Fig) : Bool := inB e.c 1 4 && (onB e.x e.y && (inB e.l 0 3 && inB e.g 0 20))
def entsB : Int → List Fig → Bool
 | _, [] => true
 | p, e :: t => decide (p < e.c) && (entB e && entsB e.c t)
def allB (l : List Int) (hi : Int) : Bool := l.all fun n => inB n 0 hi
def goldE (E : List Fig) : Int := (E.map fun e => e.g).sum

theorem onBoard (x y : Int) (w : World) :
 Calls Try.prog 59 #[.int .i64 x, .int .i64 y] w fun e w' => e = .returned (.bool (onB x y)) ∧ w = w' := by
 rcases h1 : inB x 0 3 with _ | _
 all_goals rcases h2 : inB y 0 3 with _ | _
 all_goals go_enter Try.func59, Try.ntmps59
 all_goals go_wp2_with (first | (go_at_call 60; refine (implIn _ _ _ _).mono ?_; rintro e w' ⟨rfl, rfl⟩; first | rw [h1] | rw [h2]))
 all_goals go_ret
 all_goals unfold onB
 all_goals rw [h1, h2]
 all_goals exact ⟨rfl, rfl⟩

set_option maxRecDepth 100000 in
theorem entsOk (A : Option Addr) (c : Nat) (E : List Fig) (w : World) (hE : E.length ≤ maxLen) (hr : RdF w A E) :
 Calls Try.prog 34 #[.slice A E.length c] w fun e w' => e = .returned (.bool (entsB 0 E)) ∧ Below w.heap.size w w' := by
 unfold maxLen at hE
 have HA := Lib.hid hr
 clear hr
 go_enter Try.func34, Try.ntmps34
 go_wp2
 go_loopw [3, 8] (fun pv i wr => ∃ (k : Nat) (p : Int), k ≤ E.length ∧ i = .int .i64 k ∧ pv = .int .i64 p ∧ 0 ≤ p ∧ Hid (entsB 0 E = entsB p (E.drop k)) ∧ Hid (Below w.heap.size w wr)) (fun _ i _ => E.length - (intOf i).toNat)
 case atStart => exact ⟨0, 0, Nat.zero_le _, rfl, rfl, by omega, by simp [Hid], Below.refl _ _⟩
 case round =>
  obtain ⟨k, p, hk, rfl, rfl, hp, he, hb⟩ := hrel
  by_cases hlt : k < E.length
  · obtain ⟨g, rfl, a0, a1, a2, a3, a4⟩ := RdF.below HA.out hb.out k hlt
    have HD := Lib.hid (List.drop_eq_getElem_cons hlt)
    generalize E[k] = f at a0 a1 a2 a3 a4 HD
    have i0 : (0 : Int) ≤ (k : Int) := by omega
    have i1 : (k : Int) < (E.length : Int) := by omega
    have BB := Lib.hid (Below.trans hb.out ((Below.refl wr.heap.size wr).alloc (Nat.le_refl _) (.cells #[.int .i64 f.c, .int .i64 f.x, .int .i64 f.y, .int .i64 f.l, .int .i64 f.g] 59) |>.mono hb.out.size))
    by_cases h1 : f.c ≤ p
    · go_wp2
      go_light
      go_ret
      exact ⟨ret_bool (by rw [he.out, HD.out, entsB, decide_eq_false (by omega)]; rfl), BB.out⟩
    by_cases h2 : 4 < f.c
    · go_wp2
      go_light
      go_ret
      exact ⟨ret_bool (by rw [he.out, HD.out, entsB, entB, inB, decide_eq_false (show ¬ f.c ≤ 4 by omega)]; simp), BB.out⟩
    have hc : inB f.c 1 4 = true := by simp [inB]; omega
    have HC := Lib.hid hc
    clear hc
    rcases h3 : onB f.x f.y with _ | _
    · go_wp2_with (first | (go_at_call 59; refine (onBoard _ _ _).mono ?_; rintro e w' ⟨rfl, rfl⟩; rw [h3]))
      go_light
      go_ret
      exact ⟨ret_bool (by rw [he.out, HD.out, entsB, entB, h3]; simp), BB.out⟩
    rcases h4 : inB f.l 0 3 with _ | _
    · go_wp2_with (first | (go_at_call 59; refine (onBoard _ _ _).mono ?_; rintro e w' ⟨rfl, rfl⟩; rw [h3]) | (go_at_call 60; refine (implIn _ _ _ _).mono ?_; rintro e w' ⟨rfl, rfl⟩; first | rw [h4]))
      go_light
      go_ret
      exact ⟨ret_bool (by rw [he.out, HD.out, entsB, entB, h4]; simp), BB.out⟩
    rcases h5 : inB f.g 0 20 with _ | _
    · go_wp2_with (first | (go_at_call 59; refine (onBoard _ _ _).mono ?_; rintro e w' ⟨rfl, rfl⟩; rw [h3]) | (go_at_call 60; refine (implIn _ _ _ _).mono ?_; rintro e w' ⟨rfl, rfl⟩; first | rw [h4] | rw [h5]))
      go_light
      go_ret
      exact ⟨ret_bool (by rw [he.out, HD.out, entsB, entB, h5]; simp), BB.out⟩
    have HF := Lib.hid (show entsB p (E.drop k) = entsB f.c (E.drop (k + 1)) by rw [HD.out, entsB, entB, HC.out, h3, h4, h5, decide_eq_true (show p < f.c by omega)]; rfl)
    go_wp2_with (first | (go_at_call 59; refine (onBoard _ _ _).mono ?_; rintro e w' ⟨rfl, rfl⟩; rw [h3]) | (go_at_call 60; refine (implIn _ _ _ _).mono ?_; rintro e w' ⟨rfl, rfl⟩; first | rw [h4] | rw [h5]))
    go_roundw
    case rel => exact ⟨k + 1, f.c, by omega, by go_num, rfl, by omega, he.out.trans HF.out, BB.out⟩
    case measure => simp [intOf]; omega
  · have hz : k = E.length := by omega
    have HZ := Lib.hid hz
    clear hz
    go_wp2
    go_ret
    exact ⟨ret_bool (by rw [he.out, HZ.out, List.drop_length]; rfl), hb.out⟩

set_option maxRecDepth 100000 in
theorem allWithin (A : Option Addr) (c : Nat) (l : List Int) (hi : Int) (w : World) (hl : l.length ≤ maxLen) (hr : RdI w A l) :
 Calls Try.prog 35 #[.slice A l.length c, .int .i64 hi] w fun e w' => e = .returned (.bool (allB l hi)) ∧ w = w' := by
 unfold maxLen at hl
 have HA := Lib.hid hr
 clear hr
 go_enter Try.func35, Try.ntmps35
 go_wp2
 go_loop [9] (fun i => ∃ k : Nat, k ≤ l.length ∧ i = .int .i64 k ∧ Hid (allB l hi = allB (l.drop k) hi)) (fun i => l.length - (intOf i).toNat)
 case atStart => exact ⟨0, Nat.zero_le _, rfl, by simp [Hid]⟩
 case round =>
  obtain ⟨k, hk, rfl, he⟩ := hrel
  by_cases hlt : k < l.length
  · obtain ⟨g, rfl, a0⟩ := HA.out k hlt
    have HD := Lib.hid (List.drop_eq_getElem_cons hlt)
    generalize l[k] = v at a0 HD
    have i0 : (0 : Int) ≤ (k : Int) := by omega
    have i1 : (k : Int) < (l.length : Int) := by omega
    rcases h1 : inB v 0 hi with _ | _
    · go_wp2_with (go_at_call 60; refine (implIn _ _ _ _).mono ?_; rintro e w' ⟨rfl, rfl⟩; rw [h1])
      go_light
      go_ret
      exact ⟨ret_bool (by rw [he.out, HD.out, allB, List.all_cons, h1]; rfl), rfl⟩
    · have HF := Lib.hid (show allB (l.drop k) hi = allB (l.drop (k + 1)) hi by rw [HD.out, allB, List.all_cons, h1, Bool.true_and]; rfl)
      go_wp2_with (go_at_call 60; refine (implIn _ _ _ _).mono ?_; rintro e w' ⟨rfl, rfl⟩; rw [h1])
      go_round
      case rel => exact ⟨k + 1, by omega, by go_num, he.out.trans HF.out⟩
      case measure => simp [intOf]; omega
  · have hz : k = l.length := by omega
    have HZ := Lib.hid hz
    clear hz
    go_wp2
    go_ret
    exact ⟨ret_bool (by rw [he.out, HZ.out, List.drop_length]; rfl), rfl⟩

theorem sum_step (l : List Int) (k : Nat) (h : k < l.length) : (l.take (k + 1)).sum = (l.take k).sum + l[k] := by
 rw [List.take_succ_eq_append_getElem h, List.sum_append]
 simp

theorem gold_step (E : List Fig) (k : Nat) (h : k < E.length) : goldE (E.take (k + 1)) = goldE (E.take k) + E[k].g := by
 unfold goldE
 rw [List.take_succ_eq_append_getElem h, List.map_append, List.sum_append]
 simp

theorem gold_bd : ∀ (E : List Fig), (∀ (i : Nat) (h : i < E.length), 0 ≤ (E[i]'h).g ∧ (E[i]'h).g ≤ 20) → 0 ≤ goldE E ∧ goldE E ≤ 20 * (E.length : Int) := by
 intro E
 induction E with
 | nil => intro _; simp [goldE]
 | cons e t ih =>
  intro h
  have h0 := h 0 (by simp)
  simp only [List.getElem_cons_zero] at h0
  have h1 := ih (fun i hi => by have := h (i + 1) (by simp; omega); simpa using this)
  have e1 : goldE (e :: t) = e.g + goldE t := by simp [goldE]
  rw [e1, List.length_cons]
  omega
theorem sum_bd : ∀ (F : List Int), (∀ (i : Nat) (h : i < F.length), 0 ≤ F[i]'h ∧ F[i]'h ≤ 20) → 0 ≤ F.sum ∧ F.sum ≤ 20 * (F.length : Int) := by
 intro F
 induction F with
 | nil => intro _; simp
 | cons e t ih =>
  intro h
  have h0 := h 0 (by simp)
  simp only [List.getElem_cons_zero] at h0
  have h1 := ih (fun i hi => by have := h (i + 1) (by simp; omega); simpa using this)
  rw [List.sum_cons, List.length_cons]
  omega
theorem allWithinB (A : Option Addr) (c : Nat) (l : List Int) (hi : Int) (w : World) (hl : l.length ≤ maxLen) (hr : RdI w A l) :
 Calls Try.prog 35 #[.slice A l.length c, .int .i64 hi] w fun e w' => e = .returned (.bool (allB l hi)) ∧ Below w.heap.size w w' :=
 (allWithin A c l hi w hl hr).mono (fun _ _ h => ⟨h.1, h.2 ▸ Below.refl _ _⟩)

set_option maxRecDepth 100000 in
theorem goldOfFloor (B : Option Addr) (b : Nat) (F : List Int) (w : World) (hF : F.length ≤ 1048576) (gF : ∀ (i : Nat) (h : i < F.length), 0 ≤ F[i]'h ∧ F[i]'h ≤ 20) (rF : RdI w B F) :
 Calls Try.prog 37 #[.slice B F.length b] w fun e w' => e = .returned (.int .i64 F.sum) ∧ Below w.heap.size w w' := by
 have HF := Lib.hid rF
 have GF := Lib.hid gF
 clear rF gF
 go_enter Try.func37, Try.ntmps37
 go_wp2
 go_loop [3, 8] (fun sv i => ∃ (k : Nat) (s : Int), k ≤ F.length ∧ i = .int .i64 k ∧ sv = .int .i64 s ∧ 0 ≤ s ∧ s ≤ 20 * k ∧ Hid (s = (F.take k).sum)) (fun _ i => F.length - (intOf i).toNat)
 case atStart => exact ⟨0, 0, Nat.zero_le _, rfl, rfl, by omega, by omega, by simp [Hid]⟩
 case round =>
  obtain ⟨k, s, hk, rfl, rfl, hs0, hs1, he⟩ := hrel
  by_cases hlt : k < F.length
  · obtain ⟨g, rfl, a0⟩ := HF.out k hlt
    obtain ⟨v0, v1⟩ := GF.out k hlt
    have HS := Lib.hid (sum_step F k hlt)
    generalize F[k] = v at a0 v0 v1 HS
    have i0 : (0 : Int) ≤ (k : Int) := by omega
    have i1 : (k : Int) < (F.length : Int) := by omega
    go_wp2
    go_round
    case rel => exact ⟨k + 1, s + v, by omega, by go_num, rfl, by omega, by omega, by rw [Hid, HS.out, ← he.out]⟩
    case measure => simp [intOf]; omega
  · have hz : k = F.length := by omega
    have HS : Hid (s = F.sum) := by have := he.out; rw [hz, List.take_length] at this; exact this
    clear hz
    go_wp2
    go_ret
    exact ⟨ret_int (by rw [HS.out]), Below.refl _ _⟩

set_option maxRecDepth 100000 in
theorem goldOfEnts (A : Option Addr) (a : Nat) (E : List Fig) (w : World) (hE : E.length ≤ 1048576) (gE : ∀ (i : Nat) (h : i < E.length), 0 ≤ (E[i]'h).g ∧ (E[i]'h).g ≤ 20) (rE : RdF w A E) :
 Calls Try.prog 36 #[.slice A E.length a] w fun e w' => e = .returned (.int .i64 (goldE E)) ∧ Below w.heap.size w w' := by
 have HE := Lib.hid rE
 have GE := Lib.hid gE
 clear rE gE
 go_enter Try.func36, Try.ntmps36
 go_wp2
 go_loopw [3, 8] (fun sv i wr => ∃ (j : Nat) (t : Int), j ≤ E.length ∧ i = .int .i64 j ∧ sv = .int .i64 t ∧ 0 ≤ t ∧ t ≤ 20 * j ∧ Hid (t = goldE (E.take j)) ∧ Hid (Below w.heap.size w wr)) (fun _ i _ => E.length - (intOf i).toNat)
 case atStart => exact ⟨0, 0, Nat.zero_le _, rfl, rfl, by omega, by omega, by simp [Hid, goldE], Below.refl _ _⟩
 case round =>
  obtain ⟨j, t, hj, rfl, rfl, ht0, ht1, hte, hb⟩ := hrel
  by_cases hlt2 : j < E.length
  · obtain ⟨g, rfl, a0, a1, a2, a3, a4⟩ := RdF.below HE.out hb.out j hlt2
    obtain ⟨v0, v1⟩ := GE.out j hlt2
    have HS := Lib.hid (gold_step E j hlt2)
    generalize E[j] = f at a0 a1 a2 a3 a4 v0 v1 HS
    have i0 : (0 : Int) ≤ (j : Int) := by omega
    have i1 : (j : Int) < (E.length : Int) := by omega
    have BB := Lib.hid (Below.trans hb.out ((Below.refl wr.heap.size wr).alloc (Nat.le_refl _) (.cells #[.int .i64 f.c, .int .i64 f.x, .int .i64 f.y, .int .i64 f.l, .int .i64 f.g] 59) |>.mono hb.out.size))
    go_wp2
    go_roundw
    case rel => exact ⟨j + 1, t + f.g, by omega, by go_num, rfl, by omega, by omega, by rw [Hid, HS.out, hte.out], BB.out⟩
    case measure => simp [intOf]; omega
  · have hz2 : j = E.length := by omega
    have HZ2 := Lib.hid hz2
    clear hz2
    go_wp2
    go_ret
    exact ⟨ret_int (by rw [hte.out, HZ2.out, List.take_length]), hb.out⟩
end Go.Proofs.Ytagjkngiijmokaa

/- Whether a game is ok: the program's GameOk. -/
namespace Go.Proofs.Ytagjkngiijmokaa
open Go.ChangeShapes Go.WideShapes Go.ChangeAt Go.RowKit
set_option linter.unusedVariables false

def gokB (E : List Fig) (F L : List Int) : Bool :=
 decide (F.length = 16) && (decide (L.length = 4) && (entsB 0 E && (allB F 20 && (allB L 30 && decide (F.sum + goldE E = 20)))))

theorem takeD {P : Program} {ops : Array Oper} {Q : Exit → Act → World → Prop} {md : Region.Mode} {S : World → Prop} (i : Nat) (d : Tmp) {oi : Oper} {v : Value} {fuel : Nat} {listed : Array Bool} {a : Act} {w : World} (hi : ops[i]? = some oi) (hd : oi.dst = some d)
 (hs : Region.noSelect ops = true) (hf : Region.free md ops listed i = true) (hr : (Region.ready md ops listed).contains i = true)
 (hQ : ∀ c a w, Q (.panic c) (a.put (some d) v) w → Q (.panic c) a w) (hy : YieldsIf P ops S oi v a) (hS : S w)
 (h : wpAnyH P md ops Q S fuel (listed.setIfInBounds i true) (a.put (some d) v) w) : wpAnyH P md ops Q S (fuel + 1) listed a w :=
 wpAnyH_take hi hs hf hr (by rw [hd]; exact hQ) hy hS (by rw [hd]; exact h)
theorem tkD {P : Program} {ops : Array Oper} {Q : Exit → Act → World → Prop} {md : Region.Mode} {S : World → Prop} (i : Nat) (d : Tmp) {oi : Oper} {v : Value} {fuel : Nat} {listed : Array Bool} {a : Act} {w : World} (hi : ops[i]? = some oi) (hd : oi.dst = some d)
 (hy : YieldsIf P ops S oi v a) (hS : S w) (h : wpAnyH P md ops Q S fuel (listed.setIfInBounds i true) (a.put (some d) v) w)
 (hs : Region.noSelect ops = true := by kernel_rfl) (hf : Region.free md ops listed i = true := by kernel_rfl) (hr : (Region.ready md ops listed).contains i = true := by kernel_rfl)
 (hQ : ∀ c a w, Q (.panic c) (a.put (some d) v) w → Q (.panic c) a w := by exact fun _ _ _ h => h) : wpAnyH P md ops Q S (fuel + 1) listed a w :=
 takeD i d hi hd hs hf hr hQ hy hS h
theorem tkI {P : Program} {ops : Array Oper} {Q : Exit → Act → World → Prop} {md : Region.Mode} {S : World → Prop} (i : Nat) (d : Tmp) {oi : Oper} {v : Value} {fuel : Nat} {listed : Array Bool} {a : Act} {w : World} (hi : ops[i]? = some oi) (hd : oi.dst = some d)
 (hy : ∀ w, S w → (execOp a.eval oi).run P w = .ok (.value v) w) (h : wpAnyH P md ops Q S fuel (listed.setIfInBounds i true) (a.put (some d) v) w)
 (hg : Region.wanted oi (yielded ops a.tmps) = true := by rfl) (hS : S w := by assumption)
 (hs : Region.noSelect ops = true := by kernel_rfl) (hf : Region.free md ops listed i = true := by kernel_rfl) (hr : (Region.ready md ops listed).contains i = true := by kernel_rfl)
 (hQ : ∀ c a w, Q (.panic c) (a.put (some d) v) w → Q (.panic c) a w := by exact fun _ _ _ h => h) : wpAnyH P md ops Q S (fuel + 1) listed a w :=
 takeD i d hi hd hs hf hr hQ (Or.inl ⟨hg, hy⟩) hS h


theorem entsB_gold : ∀ (E : List Fig) (p : Int), entsB p E = true → ∀ (i : Nat) (h : i < E.length), 0 ≤ (E[i]'h).g ∧ (E[i]'h).g ≤ 20 := by
 intro E
 induction E with
 | nil => intro p _ i h; simp at h
 | cons e t ih =>
  intro p hp i h
  simp only [entsB, entB, inB, Bool.and_eq_true, decide_eq_true_eq] at hp
  rcases i with _ | i
  · simp only [List.getElem_cons_zero]; omega
  · simp only [List.getElem_cons_succ]; exact ih e.c hp.2.2 i (by simpa using h)

theorem allB_at {l : List Int} {hi : Int} (h : allB l hi = true) (i : Nat) (hl : i < l.length) : 0 ≤ l[i]'hl ∧ l[i]'hl ≤ hi := by
 unfold allB at h
 rw [List.all_eq_true] at h
 have := h _ (List.getElem_mem hl)
 simpa [inB] using this

/-- Numbers that read so, wherever their row begins. -/
def RdJ (w : World) (A : Option Addr) (l : List Int) : Prop := ∀ i (h : i < l.length), ∃ g o : Nat, A = some ⟨g, o, none⟩ ∧ w.cell? ⟨g, o + i, none⟩ = some (.int .i64 (l[i]'h))
theorem RdI.j {w : World} {A : Option Addr} {l : List Int} (h : RdI w A l) : RdJ w A l := by
 intro i hi
 obtain ⟨g, hA, hc⟩ := h i hi
 exact ⟨g, 0, hA, by simpa using hc⟩
theorem RdJ.below {w w' : World} {A : Option Addr} {l : List Int} (h : RdJ w A l) (hb : Below w.heap.size w w') : RdJ w' A l := by
 intro i hi
 obtain ⟨g, o, rfl, h0⟩ := h i hi
 exact ⟨g, o, rfl, cell_kept hb h0⟩

set_option maxRecDepth 100000 in
set_option maxHeartbeats 4000000 in
theorem gameOkJ (A : Option Addr) (a : Nat) (B : Option Addr) (b : Nat) (C : Option Addr) (c : Nat) (E : List Fig) (F L : List Int) (w : World) (hE : E.length ≤ 1048576) (hF : F.length ≤ 1048576) (hL : L.length ≤ 1048576)
 (rE : RdF w A E) (rF : RdI w B F) (rL : L.length = 4 → RdI w C L) :
 Calls Try.prog 10 #[gameV A E.length a B F.length b C L.length c] w fun e w' => e = .returned (.bool (gokB E F L)) ∧ Below w.heap.size w w' := by
 have z0 : Below w.heap.size w (w.alloc (.cells #[.slice A E.length a, .slice B F.length b, .slice C L.length c] 28)) := (Below.refl _ _).alloc (Nat.le_refl _) _
 have HE := Lib.hid (RdF.below rE z0)
 have HF := Lib.hid (RdI.below rF z0)
 have HL := Lib.hid (fun h => RdI.below (rL h) z0)
 have K0 := Lib.hid (Three.new (u0 := .slice A E.length a) (u1 := .slice B F.length b) (u2 := .slice C L.length c) (t := 28) w)
 have Z0 := Lib.hid z0
 clear rE rF rL z0
 by_cases h1 : ¬ F.length = 16
 · have b1 : ((F.length : Int) != 16) = true := by simp; omega
   have H1 := Lib.hid h1
   clear h1
   go_enter Try.func10, Try.ntmps10
   go_wp2_with (fail)
   go_light
   go_ret
   exact ⟨ret_bool (by rw [gokB, decide_eq_false H1.out]; rfl), Z0.out⟩
 have b1 : ((F.length : Int) != 16) = false := by simp; omega
 have H1 := Lib.hid (show F.length = 16 by omega)
 clear h1
 by_cases h2 : ¬ L.length = 4
 · have b2 : ((L.length : Int) != 4) = true := by simp; omega
   have H2 := Lib.hid h2
   clear h2
   go_enter Try.func10, Try.ntmps10
   go_wp2_with (fail)
   go_light
   go_ret
   exact ⟨ret_bool (by rw [gokB, decide_eq_false H2.out]; simp), Z0.out⟩
 have b2 : ((L.length : Int) != 4) = false := by simp; omega
 have H2 := Lib.hid (show L.length = 4 by omega)
 clear h2
 rcases h3 : entsB 0 E with _ | _
 · go_enter Try.func10, Try.ntmps10
   go_wp2_with (go_at_call 34; refine (entsOk A a E _ (by unfold maxLen; omega) HE.out).mono ?_; rintro e w1 ⟨rfl, hb1⟩; rw [h3])
   go_light
   go_ret
   exact ⟨ret_bool (by rw [gokB, h3]; simp), Below.and Z0.out hb1⟩
 have GE := Lib.hid (entsB_gold E 0 h3)
 go_enter Try.func10, Try.ntmps10
 go_wp2_with (fail)
 refine (entsOk A a E _ (by unfold maxLen; omega) HE.out).mono ?_
 rintro e wz ⟨rfl, hb1⟩
 rw [h3]
 obtain ⟨q0, q1, q2⟩ := (Three.below K0.out hb1 (by simp)).cells
 have HB1 := Lib.hid hb1
 clear hb1
 have hsz : w.heap.size < wz.heap.size := by have := HB1.out.size; simp at this; omega
 rcases h4 : allB F 20 with _ | _
 · go_wp2_with (fail)
   refine wp_region_held_drew (S := fun w1 => Below wz.heap.size wz w1) (by kernel_rfl) ((Below.refl _ _).drew) (fun ha => ?_)
   refine tkI 0 19 (v := ?_) rfl rfl ?_ ?_
   rotate_left
   · intro w1 hSw; obtain ⟨hcS, hfS⟩ := bcell hSw; go_simp; (try with_reducible rfl)
   (try simp only [Act.put, pu1, pu2, pu3])
   refine tkI 1 20 (v := ?_) rfl rfl ?_ ?_
   rotate_left
   · intro w1 hSw; obtain ⟨hcS, hfS⟩ := bcell hSw; go_simp; (try with_reducible rfl)
   (try simp only [Act.put, pu1, pu2, pu3])
   refine wpAnyH_ready (rs := [2]) (by kernel_rfl) (by simp) ?_
   refine AllReadyH.cons rfl (fun K hK => ?_) AllReadyH.nil
   go_simp
   refine (allWithinB B b F 20 _ (by unfold maxLen; omega) (RdI.below HF.out (Below.and HB1.out ha))).mono ?_
   rintro e w2 ⟨rfl, hb⟩
   rw [h4]
   refine hK.out _ _ (Below.and ha hb) (fun ha2 => ?_)
   clear hK K
   (try simp only [Act.put, pu1, pu2, pu3])
   refine tkI 3 22 (v := ?_) rfl rfl ?_ ?_
   rotate_left
   · intro w1 hSw; obtain ⟨hcS, hfS⟩ := bcell hSw; go_simp; (try with_reducible rfl)
   (try simp only [Act.put, pu1, pu2, pu3])
   refine tkD 4 23 (v := undef) rfl rfl (Or.inr ⟨by rfl, rfl⟩) (by assumption) ?_
   (try simp only [Act.put, pu1, pu2, pu3])
   refine tkD 5 24 (v := undef) rfl rfl (Or.inr ⟨by rfl, rfl⟩) (by assumption) ?_
   (try simp only [Act.put, pu1, pu2, pu3])
   refine tkD 6 25 (v := undef) rfl rfl (Or.inr ⟨by rfl, rfl⟩) (by assumption) ?_
   (try simp only [Act.put, pu1, pu2, pu3])
   refine tkI 7 26 (v := ?_) rfl rfl ?_ ?_
   rotate_left
   · intro w1 hSw; obtain ⟨hcS, hfS⟩ := bcell hSw; go_simp; (try with_reducible rfl)
   (try simp only [Act.put, pu1, pu2, pu3])
   refine tkI 8 27 (v := ?_) rfl rfl ?_ ?_
   rotate_left
   · intro w1 hSw; obtain ⟨hcS, hfS⟩ := bcell hSw; go_simp; (try with_reducible rfl)
   (try simp only [Act.put, pu1, pu2, pu3])
   refine tkD 9 28 (v := undef) rfl rfl (Or.inr ⟨by rfl, rfl⟩) (by assumption) ?_
   (try simp only [Act.put, pu1, pu2, pu3])
   refine tkD 10 29 (v := undef) rfl rfl (Or.inr ⟨by rfl, rfl⟩) (by assumption) ?_
   (try simp only [Act.put, pu1, pu2, pu3])
   refine tkD 11 30 (v := undef) rfl rfl (Or.inr ⟨by rfl, rfl⟩) (by assumption) ?_
   (try simp only [Act.put, pu1, pu2, pu3])
   refine tkD 12 31 (v := undef) rfl rfl (Or.inr ⟨by rfl, rfl⟩) (by assumption) ?_
   (try simp only [Act.put, pu1, pu2, pu3])
   refine tkD 13 32 (v := undef) rfl rfl (Or.inr ⟨by rfl, rfl⟩) (by assumption) ?_
   (try simp only [Act.put, pu1, pu2, pu3])
   refine tkD 14 33 (v := undef) rfl rfl (Or.inr ⟨by rfl, rfl⟩) (by assumption) ?_
   (try simp only [Act.put, pu1, pu2, pu3])
   refine tkD 15 34 (v := undef) rfl rfl (Or.inr ⟨by rfl, rfl⟩) (by assumption) ?_
   (try simp only [Act.put, pu1, pu2, pu3])
   refine tkD 16 35 (v := undef) rfl rfl (Or.inr ⟨by rfl, rfl⟩) (by assumption) ?_
   (try simp only [Act.put, pu1, pu2, pu3])
   refine tkI 17 36 (v := ?_) rfl rfl ?_ ?_
   rotate_left
   · intro w1 hSw; obtain ⟨hcS, hfS⟩ := bcell hSw; go_simp; (try with_reducible rfl)
   (try simp only [Act.put, pu1, pu2, pu3])
   refine tkI 18 2 (v := ?_) rfl rfl ?_ ?_
   rotate_left
   · intro w1 hSw; obtain ⟨hcS, hfS⟩ := bcell hSw; go_simp; (try with_reducible rfl)
   (try simp only [Act.put, pu1, pu2, pu3])
   refine wpAnyH_done (by kernel_rfl) ?_ _
   go_wp2
   go_light
   go_ret
   exact ⟨ret_bool (by rw [gokB, h4]; simp), Below.and (Below.and Z0.out HB1.out) ha2⟩
 have GF := Lib.hid (fun i hi => allB_at h4 i hi)
 rcases h5 : allB L 30 with _ | _
 · go_wp2_with (fail)
   refine wp_region_held_drew (S := fun w1 => Below wz.heap.size wz w1) (by kernel_rfl) ((Below.refl _ _).drew) (fun hb2 => ?_)
   refine tkI 0 19 (v := ?_) rfl rfl ?_ ?_
   rotate_left
   · intro w1 hSw; obtain ⟨hcS, hfS⟩ := bcell hSw; go_simp; (try with_reducible rfl)
   (try simp only [Act.put, pu1, pu2, pu3])
   refine tkI 1 20 (v := ?_) rfl rfl ?_ ?_
   rotate_left
   · intro w1 hSw; obtain ⟨hcS, hfS⟩ := bcell hSw; go_simp; (try with_reducible rfl)
   (try simp only [Act.put, pu1, pu2, pu3])
   refine wpAnyH_ready (rs := [2]) (by kernel_rfl) (by simp) ?_
   refine AllReadyH.cons rfl (fun K hK => ?_) AllReadyH.nil
   go_simp
   refine (allWithinB B b F 20 _ (by unfold maxLen; omega) (RdI.below HF.out (Below.and HB1.out hb2))).mono ?_
   rintro e w2 ⟨rfl, hb⟩
   rw [h4]
   refine hK.out _ _ (Below.and hb2 hb) (fun hb22 => ?_)
   clear hK K
   (try simp only [Act.put, pu1, pu2, pu3])
   refine tkI 3 22 (v := ?_) rfl rfl ?_ ?_
   rotate_left
   · intro w1 hSw; obtain ⟨hcS, hfS⟩ := bcell hSw; go_simp; (try with_reducible rfl)
   (try simp only [Act.put, pu1, pu2, pu3])
   refine tkI 4 23 (v := ?_) rfl rfl ?_ ?_
   rotate_left
   · intro w1 hSw; obtain ⟨hcS, hfS⟩ := bcell hSw; go_simp; (try with_reducible rfl)
   (try simp only [Act.put, pu1, pu2, pu3])
   refine tkI 5 24 (v := ?_) rfl rfl ?_ ?_
   rotate_left
   · intro w1 hSw; obtain ⟨hcS, hfS⟩ := bcell hSw; go_simp; (try with_reducible rfl)
   (try simp only [Act.put, pu1, pu2, pu3])
   refine wpAnyH_ready (rs := [6]) (by kernel_rfl) (by simp) ?_
   refine AllReadyH.cons rfl (fun K hK => ?_) AllReadyH.nil
   go_simp
   refine (allWithinB C c L 30 _ (by unfold maxLen; omega) (RdI.below (HL.out H2.out) (Below.and HB1.out hb22))).mono ?_
   rintro e w2 ⟨rfl, hb⟩
   rw [h5]
   refine hK.out _ _ (Below.and hb22 hb) (fun hb23 => ?_)
   clear hK K
   (try simp only [Act.put, pu1, pu2, pu3])
   refine tkI 7 26 (v := ?_) rfl rfl ?_ ?_
   rotate_left
   · intro w1 hSw; obtain ⟨hcS, hfS⟩ := bcell hSw; go_simp; (try with_reducible rfl)
   (try simp only [Act.put, pu1, pu2, pu3])
   refine tkI 8 27 (v := ?_) rfl rfl ?_ ?_
   rotate_left
   · intro w1 hSw; obtain ⟨hcS, hfS⟩ := bcell hSw; go_simp; (try with_reducible rfl)
   (try simp only [Act.put, pu1, pu2, pu3])
   refine tkD 9 28 (v := undef) rfl rfl (Or.inr ⟨by rfl, rfl⟩) (by assumption) ?_
   (try simp only [Act.put, pu1, pu2, pu3])
   refine tkD 10 29 (v := undef) rfl rfl (Or.inr ⟨by rfl, rfl⟩) (by assumption) ?_
   (try simp only [Act.put, pu1, pu2, pu3])
   refine tkD 11 30 (v := undef) rfl rfl (Or.inr ⟨by rfl, rfl⟩) (by assumption) ?_
   (try simp only [Act.put, pu1, pu2, pu3])
   refine tkD 12 31 (v := undef) rfl rfl (Or.inr ⟨by rfl, rfl⟩) (by assumption) ?_
   (try simp only [Act.put, pu1, pu2, pu3])
   refine tkD 13 32 (v := undef) rfl rfl (Or.inr ⟨by rfl, rfl⟩) (by assumption) ?_
   (try simp only [Act.put, pu1, pu2, pu3])
   refine tkD 14 33 (v := undef) rfl rfl (Or.inr ⟨by rfl, rfl⟩) (by assumption) ?_
   (try simp only [Act.put, pu1, pu2, pu3])
   refine tkD 15 34 (v := undef) rfl rfl (Or.inr ⟨by rfl, rfl⟩) (by assumption) ?_
   (try simp only [Act.put, pu1, pu2, pu3])
   refine tkD 16 35 (v := undef) rfl rfl (Or.inr ⟨by rfl, rfl⟩) (by assumption) ?_
   (try simp only [Act.put, pu1, pu2, pu3])
   refine tkI 17 36 (v := ?_) rfl rfl ?_ ?_
   rotate_left
   · intro w1 hSw; obtain ⟨hcS, hfS⟩ := bcell hSw; go_simp; (try with_reducible rfl)
   (try simp only [Act.put, pu1, pu2, pu3])
   refine tkI 18 2 (v := ?_) rfl rfl ?_ ?_
   rotate_left
   · intro w1 hSw; obtain ⟨hcS, hfS⟩ := bcell hSw; go_simp; (try with_reducible rfl)
   (try simp only [Act.put, pu1, pu2, pu3])
   refine wpAnyH_done (by kernel_rfl) ?_ _
   go_wp2
   go_light
   go_ret
   exact ⟨ret_bool (by rw [gokB, h5]; simp), Below.and (Below.and Z0.out HB1.out) hb23⟩
 have HV := Lib.hid (show gokB E F L = decide (F.sum + goldE E = 20) by rw [gokB, h3, h4, h5, decide_eq_true H1.out, decide_eq_true H2.out]; simp)
 obtain ⟨ge0, ge1⟩ := gold_bd E GE.out
 obtain ⟨fs0, fs1⟩ := sum_bd F GF.out
 obtain ⟨ge, hge⟩ : ∃ x, goldE E = x := ⟨_, rfl⟩
 obtain ⟨fs, hfs⟩ : ∃ x, F.sum = x := ⟨_, rfl⟩
 rw [hge] at ge0 ge1 HV
 rw [hfs] at fs0 fs1 HV
 have ge2 : ge ≤ 20971520 := by omega
 have fs2 : fs ≤ 20971520 := by omega
 clear ge1 fs1
 have hwr : IntKind.i64.wrap (ge + fs) = ge + fs := IntWalk.i64_in _ (by omega)
 go_wp2_with (fail)
 refine wp_region_held_drew (S := fun w1 => Below wz.heap.size wz w1) (by kernel_rfl) ((Below.refl _ _).drew) (fun hc => ?_)
 refine tkI 0 19 (v := ?_) rfl rfl ?_ ?_
 rotate_left
 · intro w1 hSw; obtain ⟨hcS, hfS⟩ := bcell hSw; go_simp; (try with_reducible rfl)
 (try simp only [Act.put, pu1, pu2, pu3])
 refine tkI 1 20 (v := ?_) rfl rfl ?_ ?_
 rotate_left
 · intro w1 hSw; obtain ⟨hcS, hfS⟩ := bcell hSw; go_simp; (try with_reducible rfl)
 (try simp only [Act.put, pu1, pu2, pu3])
 refine wpAnyH_ready (rs := [2]) (by kernel_rfl) (by simp) ?_
 refine AllReadyH.cons rfl (fun K hK => ?_) AllReadyH.nil
 go_simp
 refine (allWithinB B b F 20 _ (by unfold maxLen; omega) (RdI.below HF.out (Below.and HB1.out hc))).mono ?_
 rintro e w2 ⟨rfl, hb⟩
 rw [h4]
 refine hK.out _ _ (Below.and hc hb) (fun hc2 => ?_)
 clear hK K
 (try simp only [Act.put, pu1, pu2, pu3])
 refine tkI 3 22 (v := ?_) rfl rfl ?_ ?_
 rotate_left
 · intro w1 hSw; obtain ⟨hcS, hfS⟩ := bcell hSw; go_simp; (try with_reducible rfl)
 (try simp only [Act.put, pu1, pu2, pu3])
 refine tkI 4 23 (v := ?_) rfl rfl ?_ ?_
 rotate_left
 · intro w1 hSw; obtain ⟨hcS, hfS⟩ := bcell hSw; go_simp; (try with_reducible rfl)
 (try simp only [Act.put, pu1, pu2, pu3])
 refine tkI 5 24 (v := ?_) rfl rfl ?_ ?_
 rotate_left
 · intro w1 hSw; obtain ⟨hcS, hfS⟩ := bcell hSw; go_simp; (try with_reducible rfl)
 (try simp only [Act.put, pu1, pu2, pu3])
 refine wpAnyH_ready (rs := [6]) (by kernel_rfl) (by simp) ?_
 refine AllReadyH.cons rfl (fun K hK => ?_) AllReadyH.nil
 go_simp
 refine (allWithinB C c L 30 _ (by unfold maxLen; omega) (RdI.below (HL.out H2.out) (Below.and HB1.out hc2))).mono ?_
 rintro e w2 ⟨rfl, hb⟩
 rw [h5]
 refine hK.out _ _ (Below.and hc2 hb) (fun hc3 => ?_)
 clear hK K
 (try simp only [Act.put, pu1, pu2, pu3])
 refine tkI 7 26 (v := ?_) rfl rfl ?_ ?_
 rotate_left
 · intro w1 hSw; obtain ⟨hcS, hfS⟩ := bcell hSw; go_simp; (try with_reducible rfl)
 (try simp only [Act.put, pu1, pu2, pu3])
 refine tkI 8 27 (v := ?_) rfl rfl ?_ ?_
 rotate_left
 · intro w1 hSw; obtain ⟨hcS, hfS⟩ := bcell hSw; go_simp; (try with_reducible rfl)
 (try simp only [Act.put, pu1, pu2, pu3])
 refine tkI 9 28 (v := ?_) rfl rfl ?_ ?_
 rotate_left
 · intro w1 hSw; obtain ⟨hcS, hfS⟩ := bcell hSw; go_simp; (try with_reducible rfl)
 (try simp only [Act.put, pu1, pu2, pu3])
 refine tkI 10 29 (v := ?_) rfl rfl ?_ ?_
 rotate_left
 · intro w1 hSw; obtain ⟨hcS, hfS⟩ := bcell hSw; go_simp; (try with_reducible rfl)
 (try simp only [Act.put, pu1, pu2, pu3])
 refine tkI 12 31 (v := ?_) rfl rfl ?_ ?_
 rotate_left
 · intro w1 hSw; obtain ⟨hcS, hfS⟩ := bcell hSw; go_simp; (try with_reducible rfl)
 (try simp only [Act.put, pu1, pu2, pu3])
 refine tkI 13 32 (v := ?_) rfl rfl ?_ ?_
 rotate_left
 · intro w1 hSw; obtain ⟨hcS, hfS⟩ := bcell hSw; go_simp; (try with_reducible rfl)
 (try simp only [Act.put, pu1, pu2, pu3])
 refine wpAnyH_ready (rs := [11]) (by kernel_rfl) (by simp) ?_
 refine AllReadyH.cons rfl (fun K hK => ?_) AllReadyH.nil
 go_simp
 refine (goldOfEnts A a E _ hE GE.out (RdF.below HE.out (Below.and HB1.out hc3))).mono ?_
 rintro e w2 ⟨rfl, hb⟩
 rw [hge]
 refine hK.out _ _ (Below.and hc3 hb) (fun hc4 => ?_)
 clear hK K
 (try simp only [Act.put, pu1, pu2, pu3])
 refine wpAnyH_ready (rs := [14]) (by kernel_rfl) (by simp) ?_
 refine AllReadyH.cons rfl (fun K hK => ?_) AllReadyH.nil
 go_simp
 refine (goldOfFloor B b F _ hF GF.out (RdI.below HF.out (Below.and HB1.out hc4))).mono ?_
 rintro e w2 ⟨rfl, hb⟩
 rw [hfs]
 refine hK.out _ _ (Below.and hc4 hb) (fun hc5 => ?_)
 clear hK K
 (try simp only [Act.put, pu1, pu2, pu3])
 refine tkI 15 34 (v := ?_) rfl rfl ?_ ?_
 rotate_left
 · intro w1 hSw; obtain ⟨hcS, hfS⟩ := bcell hSw; go_simp; (try with_reducible rfl)
 (try simp only [Act.put, pu1, pu2, pu3])
 refine tkI 16 35 (v := ?_) rfl rfl ?_ ?_
 rotate_left
 · intro w1 hSw; obtain ⟨hcS, hfS⟩ := bcell hSw; go_simp; (try with_reducible rfl)
 (try simp only [Act.put, pu1, pu2, pu3])
 refine tkI 17 36 (v := ?_) rfl rfl ?_ ?_
 rotate_left
 · intro w1 hSw; obtain ⟨hcS, hfS⟩ := bcell hSw; go_simp; (try with_reducible rfl)
 (try simp only [Act.put, pu1, pu2, pu3])
 refine tkI 18 2 (v := ?_) rfl rfl ?_ ?_
 rotate_left
 · intro w1 hSw; obtain ⟨hcS, hfS⟩ := bcell hSw; go_simp; (try with_reducible rfl)
 (try simp only [Act.put, pu1, pu2, pu3])
 refine wpAnyH_done (by kernel_rfl) ?_ _
 go_wp2
 go_light
 go_ret
 exact ⟨ret_bool (by rw [HV.out, Int.add_comm]; rfl), Below.and (Below.and Z0.out HB1.out) hc5⟩

theorem gameOk (A : Option Addr) (a : Nat) (B : Option Addr) (b : Nat) (C : Option Addr) (c : Nat) (E : List Fig) (F L : List Int) (w : World) (hE : E.length ≤ 1048576) (hF : F.length ≤ 1048576) (hL : L.length ≤ 1048576)
 (rE : RdF w A E) (rF : RdI w B F) (rL : RdI w C L) :
 Calls Try.prog 10 #[gameV A E.length a B F.length b C L.length c] w fun e w' => e = .returned (.bool (gokB E F L)) ∧ Below w.heap.size w w' :=
 gameOkJ A a B b C c E F L w hE hF hL rE rF (fun _ => rL)
end Go.Proofs.Ytagjkngiijmokaa

/- Whether a game is ok: the model's check. -/
namespace Go.Proofs.Ytagjkngiijmokaa
open Go.ChangeShapes Go.WideShapes Go.ChangeAt Go.RowKit
set_option linter.unusedVariables false

set_option maxRecDepth 100000 in
theorem l2EntOk (f : Fig) (w : World) :
 Calls Try.prog 68 #[f.val] w fun e w' => e = .returned (.bool (entB f)) ∧ Below w.heap.size w w' := by
 obtain ⟨c, x, y, l, g⟩ := f
 go_enter Try.func68, Try.ntmps68
 go_wp2
 all_goals go_light
 all_goals go_ret
 all_goals refine ⟨ret_bool ?_, (Below.refl _ _).alloc (Nat.le_refl _) _⟩
 all_goals simp only [entB, onB, inB]
 all_goals first | (simp_all; done) | (rw [Bool.eq_iff_iff]; simp_all; omega) | (simp_all; omega)

theorem entB_bd {f : Fig} (h : entB f = true) : 1 ≤ f.c ∧ 0 ≤ f.g ∧ f.g ≤ 20 := by
 simp only [entB, onB, inB, Bool.and_eq_true, decide_eq_true_eq] at h
 omega

set_option maxRecDepth 100000 in
set_option maxHeartbeats 4000000 in
theorem l2OkJ (A : Option Addr) (a : Nat) (B : Option Addr) (b : Nat) (C : Option Addr) (c : Nat) (E : List Fig) (F L : List Int) (w : World) (hE : E.length ≤ 1048576) (hF : F.length ≤ 1048576) (hL : L.length ≤ 1048576)
 (rE : RdF w A E) (rF : RdI w B F) (rL : RdJ w C L) :
 Calls Try.prog 45 #[gameV A E.length a B F.length b C L.length c] w fun e w' => e = .returned (.bool (gokB E F L)) ∧ Below w.heap.size w w' := by
 have z0 : Below w.heap.size w (w.alloc (.cells #[.slice A E.length a, .slice B F.length b, .slice C L.length c] 28)) := (Below.refl _ _).alloc (Nat.le_refl _) _
 have HE := Lib.hid (RdF.below rE z0)
 have HF := Lib.hid (RdI.below rF z0)
 have HL := Lib.hid (RdJ.below rL z0)
 have K0 := Lib.hid (Three.new (u0 := .slice A E.length a) (u1 := .slice B F.length b) (u2 := .slice C L.length c) (t := 28) w)
 have Z0 := Lib.hid z0
 clear rE rF rL z0
 go_enter Try.func45, Try.ntmps45
 go_wp2
 go_loopw [3, 4] (fun sv i wr => ∃ (k : Nat) (p s : Int), k ≤ E.length ∧ i = .int .i64 k ∧ sv = .int .i64 s ∧ 0 ≤ s ∧ s ≤ 20 * k ∧ 0 ≤ p ∧ Hid (s = goldE (E.take k)) ∧ Hid (entsB 0 E = entsB p (E.drop k)) ∧ Hid (k = 0 → p = 0) ∧ Hid (∀ (h : k - 1 < E.length), 0 < k → p = (E[k - 1]'h).c) ∧
  Hid (Below (w.alloc (.cells #[.slice A E.length a, .slice B F.length b, .slice C L.length c] 28)).heap.size (w.alloc (.cells #[.slice A E.length a, .slice B F.length b, .slice C L.length c] 28)) wr)) (fun _ i _ => E.length - (intOf i).toNat)
 case atStart => exact ⟨0, 0, 0, Nat.zero_le _, rfl, rfl, by omega, by omega, by omega, by simp [Hid, goldE], by simp [Hid], fun _ => rfl, fun _ h => by omega, Below.refl _ _⟩
 case round =>
  obtain ⟨k, p, s, hk, rfl, rfl, hs0, hs1, hp, hse, hee, hk0, hkp, hb⟩ := hrel
  obtain ⟨q0, q1, q2⟩ := (Three.below K0.out hb.out (by simp)).cells
  by_cases hlt : k < E.length
  · obtain ⟨g, rfl, a0, a1, a2, a3, a4⟩ := RdF.below HE.out hb.out k hlt
    have HD := Lib.hid (List.drop_eq_getElem_cons hlt)
    have HG := Lib.hid (gold_step E k hlt)
    have HP : Hid (∀ (h : k + 1 - 1 < E.length), 0 < k + 1 → (E[k]'hlt).c = (E[k + 1 - 1]'h).c) := fun h _ => rfl
    obtain ⟨f, hf⟩ : ∃ f, f = E[k] := ⟨_, rfl⟩
    rw [← hf] at a0 a1 a2 a3 a4 HD HG HP
    have i0 : (0 : Int) ≤ (k : Int) := by omega
    have i1 : (k : Int) < (E.length : Int) := by omega
    have HFF := Lib.hid hf
    clear hf
    have KS := Lib.hid (show ∀ w1, Below wr.heap.size wr w1 → (fun w1 => Below wr.heap.size wr w1 ∧ w1.cell? ⟨w.heap.size, 0, none⟩ = some (.slice (some ⟨g, 0, none⟩) E.length a) ∧ w1.cell? ⟨g, k * 5, none⟩ = some (.int .i64 f.c) ∧ w1.cell? ⟨g, k * 5 + 1, none⟩ = some (.int .i64 f.x) ∧ w1.cell? ⟨g, k * 5 + 2, none⟩ = some (.int .i64 f.y) ∧ w1.cell? ⟨g, k * 5 + 3, none⟩ = some (.int .i64 f.l) ∧ w1.cell? ⟨g, k * 5 + 4, none⟩ = some (.int .i64 f.g)) w1 from fun w1 h => ⟨h, cell_kept h q0, cell_kept h a0, cell_kept h a1, cell_kept h a2, cell_kept h a3, cell_kept h a4⟩)
    rcases h1 : entB f with _ | _
    ·
     go_wp2_with (fail)
     refine wp_region_held_drew (S := fun w1 => Below wr.heap.size wr w1 ∧ w1.cell? ⟨w.heap.size, 0, none⟩ = some (.slice (some ⟨g, 0, none⟩) E.length a) ∧ w1.cell? ⟨g, k * 5, none⟩ = some (.int .i64 f.c) ∧ w1.cell? ⟨g, k * 5 + 1, none⟩ = some (.int .i64 f.x) ∧ w1.cell? ⟨g, k * 5 + 2, none⟩ = some (.int .i64 f.y) ∧ w1.cell? ⟨g, k * 5 + 3, none⟩ = some (.int .i64 f.l) ∧ w1.cell? ⟨g, k * 5 + 4, none⟩ = some (.int .i64 f.g)) (by kernel_rfl) (KS.out _ (Below.refl _ _).drew) (fun hHeld => ?_)
     refine tkI 0 14 (v := ?_) rfl rfl ?_ ?_
     rotate_left
     · intro w1 hSw; (try dsimp only at hSw); go_split_ands; go_simp; (try with_reducible rfl)
     (try simp only [Act.put, pu1, pu2, pu3])
     refine tkI 1 15 (v := ?_) rfl rfl ?_ ?_
     rotate_left
     · intro w1 hSw; (try dsimp only at hSw); go_split_ands; go_simp; (try with_reducible rfl)
     (try simp only [Act.put, pu1, pu2, pu3])
     refine tkI 2 16 (v := ?_) rfl rfl ?_ ?_
     rotate_left
     · intro w1 hSw; (try dsimp only at hSw); go_split_ands; go_simp; (try with_reducible rfl)
     (try simp only [Act.put, pu1, pu2, pu3])
     refine tkI 3 17 (v := ?_) rfl rfl ?_ ?_
     rotate_left
     · intro w1 hSw; (try dsimp only at hSw); go_split_ands; go_simp; (try with_reducible rfl)
     (try simp only [Act.put, pu1, pu2, pu3])
     refine tkI 4 18 (v := ?_) rfl rfl ?_ ?_
     rotate_left
     · intro w1 hSw; (try dsimp only at hSw); go_split_ands; go_simp; (try with_reducible rfl)
     (try simp only [Act.put, pu1, pu2, pu3])
     refine wpAnyH_ready (rs := [5]) (by kernel_rfl) (by simp) ?_
     refine AllReadyH.cons rfl (fun K hK => ?_) AllReadyH.nil
     go_simp
     refine (l2EntOk f _).mono ?_
     rintro e w' ⟨rfl, hb5⟩
     rw [h1]
     refine hK.out _ _ (KS.out _ (Below.back hb5 hHeld)) (fun hHeld2 => ?_)
     clear hK K
     (try simp only [Act.put, pu1, pu2, pu3])
     refine tkI 6 20 (v := ?_) rfl rfl ?_ ?_
     rotate_left
     · intro w1 hSw; (try dsimp only at hSw); go_split_ands; go_simp; (try with_reducible rfl)
     (try simp only [Act.put, pu1, pu2, pu3])
     refine tkI 7 21 (v := ?_) rfl rfl ?_ ?_
     rotate_left
     · intro w1 hSw; (try dsimp only at hSw); go_split_ands; go_simp; (try with_reducible rfl)
     (try simp only [Act.put, pu1, pu2, pu3])
     refine tkD 8 22 (v := undef) rfl rfl (Or.inr ⟨by rfl, rfl⟩) (by assumption) ?_
     (try simp only [Act.put, pu1, pu2, pu3])
     refine tkD 9 23 (v := undef) rfl rfl (Or.inr ⟨by rfl, rfl⟩) (by assumption) ?_
     (try simp only [Act.put, pu1, pu2, pu3])
     refine tkD 10 24 (v := undef) rfl rfl (Or.inr ⟨by rfl, rfl⟩) (by assumption) ?_
     (try simp only [Act.put, pu1, pu2, pu3])
     refine tkD 11 25 (v := undef) rfl rfl (Or.inr ⟨by rfl, rfl⟩) (by assumption) ?_
     (try simp only [Act.put, pu1, pu2, pu3])
     refine tkD 12 26 (v := undef) rfl rfl (Or.inr ⟨by rfl, rfl⟩) (by assumption) ?_
     (try simp only [Act.put, pu1, pu2, pu3])
     refine tkD 13 27 (v := undef) rfl rfl (Or.inr ⟨by rfl, rfl⟩) (by assumption) ?_
     (try simp only [Act.put, pu1, pu2, pu3])
     refine tkD 14 28 (v := undef) rfl rfl (Or.inr ⟨by rfl, rfl⟩) (by assumption) ?_
     (try simp only [Act.put, pu1, pu2, pu3])
     refine tkD 15 29 (v := undef) rfl rfl (Or.inr ⟨by rfl, rfl⟩) (by assumption) ?_
     (try simp only [Act.put, pu1, pu2, pu3])
     refine tkD 16 30 (v := undef) rfl rfl (Or.inr ⟨by rfl, rfl⟩) (by assumption) ?_
     (try simp only [Act.put, pu1, pu2, pu3])
     refine tkD 17 31 (v := undef) rfl rfl (Or.inr ⟨by rfl, rfl⟩) (by assumption) ?_
     (try simp only [Act.put, pu1, pu2, pu3])
     refine tkD 18 32 (v := undef) rfl rfl (Or.inr ⟨by rfl, rfl⟩) (by assumption) ?_
     (try simp only [Act.put, pu1, pu2, pu3])
     refine tkD 19 33 (v := undef) rfl rfl (Or.inr ⟨by rfl, rfl⟩) (by assumption) ?_
     (try simp only [Act.put, pu1, pu2, pu3])
     refine tkD 20 34 (v := undef) rfl rfl (Or.inr ⟨by rfl, rfl⟩) (by assumption) ?_
     (try simp only [Act.put, pu1, pu2, pu3])
     refine tkD 21 35 (v := undef) rfl rfl (Or.inr ⟨by rfl, rfl⟩) (by assumption) ?_
     (try simp only [Act.put, pu1, pu2, pu3])
     refine tkD 22 36 (v := undef) rfl rfl (Or.inr ⟨by rfl, rfl⟩) (by assumption) ?_
     (try simp only [Act.put, pu1, pu2, pu3])
     refine tkD 23 37 (v := undef) rfl rfl (Or.inr ⟨by rfl, rfl⟩) (by assumption) ?_
     (try simp only [Act.put, pu1, pu2, pu3])
     refine tkD 24 38 (v := undef) rfl rfl (Or.inr ⟨by rfl, rfl⟩) (by assumption) ?_
     (try simp only [Act.put, pu1, pu2, pu3])
     refine tkD 25 39 (v := undef) rfl rfl (Or.inr ⟨by rfl, rfl⟩) (by assumption) ?_
     (try simp only [Act.put, pu1, pu2, pu3])
     refine tkI 26 40 (v := ?_) rfl rfl ?_ ?_
     rotate_left
     · intro w1 hSw; (try dsimp only at hSw); go_split_ands; go_simp; (try with_reducible rfl)
     (try simp only [Act.put, pu1, pu2, pu3])
     refine wpAnyH_done (by kernel_rfl) ?_ _
     have g1 := hHeld2.1
     clear hHeld hHeld2
     go_wp2
     go_light
     go_ret
     exact ⟨ret_bool (by rw [gokB, hee.out, HD.out, entsB, h1]; simp), below_box (Below.and hb.out g1)⟩
    have HBD := entB_bd h1
    obtain ⟨d1, d2, d3⟩ := HBD
    rcases Nat.eq_zero_or_pos k with hkz | hkz
    · have hp0 := hk0.out hkz
      have HN := Lib.hid (show entsB p (E.drop k) = entsB f.c (E.drop (k + 1)) by rw [HD.out, entsB, h1, hp0, decide_eq_true (show (0 : Int) < f.c by omega)]; rfl)
      have hd : decide (0 < k) = false := by simp; omega
      have hkle : k ≤ 0 := by omega
      clear hkz hp0
      go_wp2_with (fail)
      refine wp_region_held_drew (S := fun w1 => Below wr.heap.size wr w1 ∧ w1.cell? ⟨w.heap.size, 0, none⟩ = some (.slice (some ⟨g, 0, none⟩) E.length a) ∧ w1.cell? ⟨g, k * 5, none⟩ = some (.int .i64 f.c) ∧ w1.cell? ⟨g, k * 5 + 1, none⟩ = some (.int .i64 f.x) ∧ w1.cell? ⟨g, k * 5 + 2, none⟩ = some (.int .i64 f.y) ∧ w1.cell? ⟨g, k * 5 + 3, none⟩ = some (.int .i64 f.l) ∧ w1.cell? ⟨g, k * 5 + 4, none⟩ = some (.int .i64 f.g)) (by kernel_rfl) (KS.out _ (Below.refl _ _).drew) (fun hHeld => ?_)
      refine tkI 0 14 (v := ?_) rfl rfl ?_ ?_
      rotate_left
      · intro w1 hSw; (try dsimp only at hSw); go_split_ands; go_simp; (try with_reducible rfl)
      (try simp only [Act.put, pu1, pu2, pu3])
      refine tkI 1 15 (v := ?_) rfl rfl ?_ ?_
      rotate_left
      · intro w1 hSw; (try dsimp only at hSw); go_split_ands; go_simp; (try with_reducible rfl)
      (try simp only [Act.put, pu1, pu2, pu3])
      refine tkI 2 16 (v := ?_) rfl rfl ?_ ?_
      rotate_left
      · intro w1 hSw; (try dsimp only at hSw); go_split_ands; go_simp; (try with_reducible rfl)
      (try simp only [Act.put, pu1, pu2, pu3])
      refine tkI 3 17 (v := ?_) rfl rfl ?_ ?_
      rotate_left
      · intro w1 hSw; (try dsimp only at hSw); go_split_ands; go_simp; (try with_reducible rfl)
      (try simp only [Act.put, pu1, pu2, pu3])
      refine tkI 4 18 (v := ?_) rfl rfl ?_ ?_
      rotate_left
      · intro w1 hSw; (try dsimp only at hSw); go_split_ands; go_simp; (try with_reducible rfl)
      (try simp only [Act.put, pu1, pu2, pu3])
      refine wpAnyH_ready (rs := [5]) (by kernel_rfl) (by simp) ?_
      refine AllReadyH.cons rfl (fun K hK => ?_) AllReadyH.nil
      go_simp
      refine (l2EntOk f _).mono ?_
      rintro e w' ⟨rfl, hb5⟩
      rw [h1]
      refine hK.out _ _ (KS.out _ (Below.back hb5 hHeld)) (fun hHeld2 => ?_)
      clear hK K
      (try simp only [Act.put, pu1, pu2, pu3])
      refine tkI 6 20 (v := ?_) rfl rfl ?_ ?_
      rotate_left
      · intro w1 hSw; (try dsimp only at hSw); go_split_ands; go_simp; (try with_reducible rfl)
      (try simp only [Act.put, pu1, pu2, pu3])
      refine tkI 7 21 (v := ?_) rfl rfl ?_ ?_
      rotate_left
      · intro w1 hSw; (try dsimp only at hSw); go_split_ands; go_simp; (try with_reducible rfl)
      (try simp only [Act.put, pu1, pu2, pu3])
      refine tkI 8 22 (v := ?_) rfl rfl ?_ ?_
      rotate_left
      · intro w1 hSw; (try dsimp only at hSw); go_split_ands; go_simp; (try with_reducible rfl)
      (try simp only [Act.put, pu1, pu2, pu3])
      refine tkI 9 23 (v := ?_) rfl rfl ?_ ?_
      rotate_left
      · intro w1 hSw; (try dsimp only at hSw); go_split_ands; go_simp; (try with_reducible rfl)
      (try simp only [Act.put, pu1, pu2, pu3])
      refine tkI 10 24 (v := ?_) rfl rfl ?_ ?_
      rotate_left
      · intro w1 hSw; (try dsimp only at hSw); go_split_ands; go_simp; (try with_reducible rfl)
      (try simp only [Act.put, pu1, pu2, pu3])
      refine tkD 11 25 (v := undef) rfl rfl (Or.inr ⟨by rfl, rfl⟩) (by assumption) ?_
      (try simp only [Act.put, pu1, pu2, pu3])
      refine tkD 12 26 (v := undef) rfl rfl (Or.inr ⟨by rfl, rfl⟩) (by assumption) ?_
      (try simp only [Act.put, pu1, pu2, pu3])
      refine tkD 13 27 (v := undef) rfl rfl (Or.inr ⟨by rfl, rfl⟩) (by assumption) ?_
      (try simp only [Act.put, pu1, pu2, pu3])
      refine tkD 14 28 (v := undef) rfl rfl (Or.inr ⟨by rfl, rfl⟩) (by assumption) ?_
      (try simp only [Act.put, pu1, pu2, pu3])
      refine tkD 15 29 (v := undef) rfl rfl (Or.inr ⟨by rfl, rfl⟩) (by assumption) ?_
      (try simp only [Act.put, pu1, pu2, pu3])
      refine tkD 16 30 (v := undef) rfl rfl (Or.inr ⟨by rfl, rfl⟩) (by assumption) ?_
      (try simp only [Act.put, pu1, pu2, pu3])
      refine tkD 17 31 (v := undef) rfl rfl (Or.inr ⟨by rfl, rfl⟩) (by assumption) ?_
      (try simp only [Act.put, pu1, pu2, pu3])
      refine tkD 18 32 (v := undef) rfl rfl (Or.inr ⟨by rfl, rfl⟩) (by assumption) ?_
      (try simp only [Act.put, pu1, pu2, pu3])
      refine tkD 19 33 (v := undef) rfl rfl (Or.inr ⟨by rfl, rfl⟩) (by assumption) ?_
      (try simp only [Act.put, pu1, pu2, pu3])
      refine tkD 20 34 (v := undef) rfl rfl (Or.inr ⟨by rfl, rfl⟩) (by assumption) ?_
      (try simp only [Act.put, pu1, pu2, pu3])
      refine tkD 21 35 (v := undef) rfl rfl (Or.inr ⟨by rfl, rfl⟩) (by assumption) ?_
      (try simp only [Act.put, pu1, pu2, pu3])
      refine tkD 22 36 (v := undef) rfl rfl (Or.inr ⟨by rfl, rfl⟩) (by assumption) ?_
      (try simp only [Act.put, pu1, pu2, pu3])
      refine tkD 23 37 (v := undef) rfl rfl (Or.inr ⟨by rfl, rfl⟩) (by assumption) ?_
      (try simp only [Act.put, pu1, pu2, pu3])
      refine tkD 24 38 (v := undef) rfl rfl (Or.inr ⟨by rfl, rfl⟩) (by assumption) ?_
      (try simp only [Act.put, pu1, pu2, pu3])
      refine tkI 25 39 (v := ?_) rfl rfl ?_ ?_
      rotate_left
      · intro w1 hSw; (try dsimp only at hSw); go_split_ands; go_simp; (try with_reducible rfl)
      (try simp only [Act.put, pu1, pu2, pu3])
      refine tkI 26 40 (v := ?_) rfl rfl ?_ ?_
      rotate_left
      · intro w1 hSw; (try dsimp only at hSw); go_split_ands; go_simp; (try with_reducible rfl)
      (try simp only [Act.put, pu1, pu2, pu3])
      refine wpAnyH_done (by kernel_rfl) ?_ _
      have g1 := hHeld2.1
      obtain ⟨r0, r1, r2⟩ := (Three.below K0.out (Below.and hb.out g1) (by simp)).cells
      have c4 := cell_kept g1 a4
      clear hHeld hHeld2
      go_wp2
      go_roundw
      case rel => exact ⟨k + 1, f.c, s + f.g, by omega, by go_num, rfl, by omega, by omega, by omega, by rw [Hid, HG.out, ← hse.out], hee.out.trans HN.out, fun h => by omega, HP.out, Below.and hb.out g1⟩
      case measure => simp [intOf]; omega
    · have hpv := hkp.out (by omega) hkz
      obtain ⟨gg, hgg, b0, _⟩ := RdF.below HE.out hb.out (k - 1) (by omega)
      cases hgg
      rw [← hpv] at b0
      clear hpv
      have hd : decide (0 < k) = true := by simp; omega
      have j0 : (0 : Int) ≤ (k : Int) - 1 := by omega
      have j2 : (1 : Int) ≤ (k : Int) := by omega
      have j1 : (k : Int) - 1 < (E.length : Int) := by omega
      clear KS
      have KS := Lib.hid (show ∀ w1, Below wr.heap.size wr w1 → (fun w1 => Below wr.heap.size wr w1 ∧ w1.cell? ⟨w.heap.size, 0, none⟩ = some (.slice (some ⟨g, 0, none⟩) E.length a) ∧ w1.cell? ⟨g, k * 5, none⟩ = some (.int .i64 f.c) ∧ w1.cell? ⟨g, k * 5 + 1, none⟩ = some (.int .i64 f.x) ∧ w1.cell? ⟨g, k * 5 + 2, none⟩ = some (.int .i64 f.y) ∧ w1.cell? ⟨g, k * 5 + 3, none⟩ = some (.int .i64 f.l) ∧ w1.cell? ⟨g, k * 5 + 4, none⟩ = some (.int .i64 f.g) ∧ w1.cell? ⟨g, (k - 1) * 5, none⟩ = some (.int .i64 p)) w1 from fun w1 h => ⟨h, cell_kept h q0, cell_kept h a0, cell_kept h a1, cell_kept h a2, cell_kept h a3, cell_kept h a4, cell_kept h b0⟩)
      by_cases hle : f.c ≤ p
      ·
       have hw : IntKind.i64.wrap ((k : Int) - 1) = (k : Int) - 1 := IntWalk.i64_in _ (by omega)
       have ht : ((k : Int) - 1).toNat = k - 1 := by omega
       go_wp2_with (fail)
       refine wp_region_held_drew (S := fun w1 => Below wr.heap.size wr w1 ∧ w1.cell? ⟨w.heap.size, 0, none⟩ = some (.slice (some ⟨g, 0, none⟩) E.length a) ∧ w1.cell? ⟨g, k * 5, none⟩ = some (.int .i64 f.c) ∧ w1.cell? ⟨g, k * 5 + 1, none⟩ = some (.int .i64 f.x) ∧ w1.cell? ⟨g, k * 5 + 2, none⟩ = some (.int .i64 f.y) ∧ w1.cell? ⟨g, k * 5 + 3, none⟩ = some (.int .i64 f.l) ∧ w1.cell? ⟨g, k * 5 + 4, none⟩ = some (.int .i64 f.g) ∧ w1.cell? ⟨g, (k - 1) * 5, none⟩ = some (.int .i64 p)) (by kernel_rfl) (KS.out _ (Below.refl _ _).drew) (fun hHeld => ?_)
       refine tkI 0 14 (v := ?_) rfl rfl ?_ ?_
       rotate_left
       · intro w1 hSw; (try dsimp only at hSw); go_split_ands; go_simp; (try with_reducible rfl)
       (try simp only [Act.put, pu1, pu2, pu3])
       refine tkI 1 15 (v := ?_) rfl rfl ?_ ?_
       rotate_left
       · intro w1 hSw; (try dsimp only at hSw); go_split_ands; go_simp; (try with_reducible rfl)
       (try simp only [Act.put, pu1, pu2, pu3])
       refine tkI 2 16 (v := ?_) rfl rfl ?_ ?_
       rotate_left
       · intro w1 hSw; (try dsimp only at hSw); go_split_ands; go_simp; (try with_reducible rfl)
       (try simp only [Act.put, pu1, pu2, pu3])
       refine tkI 3 17 (v := ?_) rfl rfl ?_ ?_
       rotate_left
       · intro w1 hSw; (try dsimp only at hSw); go_split_ands; go_simp; (try with_reducible rfl)
       (try simp only [Act.put, pu1, pu2, pu3])
       refine tkI 4 18 (v := ?_) rfl rfl ?_ ?_
       rotate_left
       · intro w1 hSw; (try dsimp only at hSw); go_split_ands; go_simp; (try with_reducible rfl)
       (try simp only [Act.put, pu1, pu2, pu3])
       refine wpAnyH_ready (rs := [5]) (by kernel_rfl) (by simp) ?_
       refine AllReadyH.cons rfl (fun K hK => ?_) AllReadyH.nil
       go_simp
       refine (l2EntOk f _).mono ?_
       rintro e w' ⟨rfl, hb5⟩
       rw [h1]
       refine hK.out _ _ (KS.out _ (Below.back hb5 hHeld)) (fun hHeld2 => ?_)
       clear hK K
       (try simp only [Act.put, pu1, pu2, pu3])
       refine tkI 6 20 (v := ?_) rfl rfl ?_ ?_
       rotate_left
       · intro w1 hSw; (try dsimp only at hSw); go_split_ands; go_simp; (try with_reducible rfl)
       (try simp only [Act.put, pu1, pu2, pu3])
       refine tkI 7 21 (v := ?_) rfl rfl ?_ ?_
       rotate_left
       · intro w1 hSw; (try dsimp only at hSw); go_split_ands; go_simp; (try with_reducible rfl)
       (try simp only [Act.put, pu1, pu2, pu3])
       refine tkI 8 22 (v := ?_) rfl rfl ?_ ?_
       rotate_left
       · intro w1 hSw; (try dsimp only at hSw); go_split_ands; go_simp; (try with_reducible rfl)
       (try simp only [Act.put, pu1, pu2, pu3])
       refine tkI 9 23 (v := ?_) rfl rfl ?_ ?_
       rotate_left
       · intro w1 hSw; (try dsimp only at hSw); go_split_ands; go_simp; (try with_reducible rfl)
       (try simp only [Act.put, pu1, pu2, pu3])
       refine tkI 10 24 (v := ?_) rfl rfl ?_ ?_
       rotate_left
       · intro w1 hSw; (try dsimp only at hSw); go_split_ands; go_simp; (try with_reducible rfl)
       (try simp only [Act.put, pu1, pu2, pu3])
       refine tkI 11 25 (v := ?_) rfl rfl ?_ ?_
       rotate_left
       · intro w1 hSw; (try dsimp only at hSw); go_split_ands; go_simp; (try with_reducible rfl)
       (try simp only [Act.put, pu1, pu2, pu3])
       refine tkI 12 26 (v := ?_) rfl rfl ?_ ?_
       rotate_left
       · intro w1 hSw; (try dsimp only at hSw); go_split_ands; go_simp; (try with_reducible rfl)
       (try simp only [Act.put, pu1, pu2, pu3])
       refine tkI 13 27 (v := ?_) rfl rfl ?_ ?_
       rotate_left
       · intro w1 hSw; (try dsimp only at hSw); go_split_ands; go_simp; (try with_reducible rfl)
       (try simp only [Act.put, pu1, pu2, pu3])
       refine tkI 14 28 (v := ?_) rfl rfl ?_ ?_
       rotate_left
       · intro w1 hSw; (try dsimp only at hSw); go_split_ands; go_simp; (try with_reducible rfl)
       (try simp only [Act.put, pu1, pu2, pu3])
       refine tkI 15 29 (v := ?_) rfl rfl ?_ ?_
       rotate_left
       · intro w1 hSw; (try dsimp only at hSw); go_split_ands; go_simp; (try with_reducible rfl)
       (try simp only [Act.put, pu1, pu2, pu3])
       refine tkI 16 30 (v := ?_) rfl rfl ?_ ?_
       rotate_left
       · intro w1 hSw; (try dsimp only at hSw); go_split_ands; go_simp; (try with_reducible rfl)
       (try simp only [Act.put, pu1, pu2, pu3])
       refine tkI 17 31 (v := ?_) rfl rfl ?_ ?_
       rotate_left
       · intro w1 hSw; (try dsimp only at hSw); go_split_ands; go_simp; (try with_reducible rfl)
       (try simp only [Act.put, pu1, pu2, pu3])
       refine tkI 18 32 (v := ?_) rfl rfl ?_ ?_
       rotate_left
       · intro w1 hSw; (try dsimp only at hSw); go_split_ands; go_simp; (try with_reducible rfl)
       (try simp only [Act.put, pu1, pu2, pu3])
       refine tkI 19 33 (v := ?_) rfl rfl ?_ ?_
       rotate_left
       · intro w1 hSw; (try dsimp only at hSw); go_split_ands; go_simp; (try with_reducible rfl)
       (try simp only [Act.put, pu1, pu2, pu3])
       refine tkI 20 34 (v := ?_) rfl rfl ?_ ?_
       rotate_left
       · intro w1 hSw; (try dsimp only at hSw); go_split_ands; go_simp; (try with_reducible rfl)
       (try simp only [Act.put, pu1, pu2, pu3])
       refine tkI 21 35 (v := ?_) rfl rfl ?_ ?_
       rotate_left
       · intro w1 hSw; (try dsimp only at hSw); go_split_ands; go_simp; (try with_reducible rfl)
       (try simp only [Act.put, pu1, pu2, pu3])
       refine tkI 22 36 (v := ?_) rfl rfl ?_ ?_
       rotate_left
       · intro w1 hSw; (try dsimp only at hSw); go_split_ands; go_simp; (try with_reducible rfl)
       (try simp only [Act.put, pu1, pu2, pu3])
       refine tkI 23 37 (v := ?_) rfl rfl ?_ ?_
       rotate_left
       · intro w1 hSw; (try dsimp only at hSw); go_split_ands; go_simp; (try with_reducible rfl)
       (try simp only [Act.put, pu1, pu2, pu3])
       refine tkI 24 38 (v := ?_) rfl rfl ?_ ?_
       rotate_left
       · intro w1 hSw; (try dsimp only at hSw); go_split_ands; go_simp; (try with_reducible rfl)
       (try simp only [Act.put, pu1, pu2, pu3])
       refine tkI 25 39 (v := ?_) rfl rfl ?_ ?_
       rotate_left
       · intro w1 hSw; (try dsimp only at hSw); go_split_ands; go_simp; (try with_reducible rfl)
       (try simp only [Act.put, pu1, pu2, pu3])
       refine tkI 26 40 (v := ?_) rfl rfl ?_ ?_
       rotate_left
       · intro w1 hSw; (try dsimp only at hSw); go_split_ands; go_simp; (try with_reducible rfl)
       (try simp only [Act.put, pu1, pu2, pu3])
       refine wpAnyH_done (by kernel_rfl) ?_ _
       have g1 := hHeld2.1
       clear hw ht
       clear hHeld hHeld2
       go_wp2
       go_light
       go_ret
       exact ⟨ret_bool (by rw [gokB, hee.out, HD.out, entsB, decide_eq_false (show ¬ p < f.c by omega)]; simp), below_box (Below.and hb.out g1)⟩
      · have HN := Lib.hid (show entsB p (E.drop k) = entsB f.c (E.drop (k + 1)) by rw [HD.out, entsB, h1, decide_eq_true (show p < f.c by omega)]; rfl)
        have hw : IntKind.i64.wrap ((k : Int) - 1) = (k : Int) - 1 := IntWalk.i64_in _ (by omega)
        have ht : ((k : Int) - 1).toNat = k - 1 := by omega
        go_wp2_with (fail)
        refine wp_region_held_drew (S := fun w1 => Below wr.heap.size wr w1 ∧ w1.cell? ⟨w.heap.size, 0, none⟩ = some (.slice (some ⟨g, 0, none⟩) E.length a) ∧ w1.cell? ⟨g, k * 5, none⟩ = some (.int .i64 f.c) ∧ w1.cell? ⟨g, k * 5 + 1, none⟩ = some (.int .i64 f.x) ∧ w1.cell? ⟨g, k * 5 + 2, none⟩ = some (.int .i64 f.y) ∧ w1.cell? ⟨g, k * 5 + 3, none⟩ = some (.int .i64 f.l) ∧ w1.cell? ⟨g, k * 5 + 4, none⟩ = some (.int .i64 f.g) ∧ w1.cell? ⟨g, (k - 1) * 5, none⟩ = some (.int .i64 p)) (by kernel_rfl) (KS.out _ (Below.refl _ _).drew) (fun hHeld => ?_)
        refine tkI 0 14 (v := ?_) rfl rfl ?_ ?_
        rotate_left
        · intro w1 hSw; (try dsimp only at hSw); go_split_ands; go_simp; (try with_reducible rfl)
        (try simp only [Act.put, pu1, pu2, pu3])
        refine tkI 1 15 (v := ?_) rfl rfl ?_ ?_
        rotate_left
        · intro w1 hSw; (try dsimp only at hSw); go_split_ands; go_simp; (try with_reducible rfl)
        (try simp only [Act.put, pu1, pu2, pu3])
        refine tkI 2 16 (v := ?_) rfl rfl ?_ ?_
        rotate_left
        · intro w1 hSw; (try dsimp only at hSw); go_split_ands; go_simp; (try with_reducible rfl)
        (try simp only [Act.put, pu1, pu2, pu3])
        refine tkI 3 17 (v := ?_) rfl rfl ?_ ?_
        rotate_left
        · intro w1 hSw; (try dsimp only at hSw); go_split_ands; go_simp; (try with_reducible rfl)
        (try simp only [Act.put, pu1, pu2, pu3])
        refine tkI 4 18 (v := ?_) rfl rfl ?_ ?_
        rotate_left
        · intro w1 hSw; (try dsimp only at hSw); go_split_ands; go_simp; (try with_reducible rfl)
        (try simp only [Act.put, pu1, pu2, pu3])
        refine wpAnyH_ready (rs := [5]) (by kernel_rfl) (by simp) ?_
        refine AllReadyH.cons rfl (fun K hK => ?_) AllReadyH.nil
        go_simp
        refine (l2EntOk f _).mono ?_
        rintro e w' ⟨rfl, hb5⟩
        rw [h1]
        refine hK.out _ _ (KS.out _ (Below.back hb5 hHeld)) (fun hHeld2 => ?_)
        clear hK K
        (try simp only [Act.put, pu1, pu2, pu3])
        refine tkI 6 20 (v := ?_) rfl rfl ?_ ?_
        rotate_left
        · intro w1 hSw; (try dsimp only at hSw); go_split_ands; go_simp; (try with_reducible rfl)
        (try simp only [Act.put, pu1, pu2, pu3])
        refine tkI 7 21 (v := ?_) rfl rfl ?_ ?_
        rotate_left
        · intro w1 hSw; (try dsimp only at hSw); go_split_ands; go_simp; (try with_reducible rfl)
        (try simp only [Act.put, pu1, pu2, pu3])
        refine tkI 8 22 (v := ?_) rfl rfl ?_ ?_
        rotate_left
        · intro w1 hSw; (try dsimp only at hSw); go_split_ands; go_simp; (try with_reducible rfl)
        (try simp only [Act.put, pu1, pu2, pu3])
        refine tkI 9 23 (v := ?_) rfl rfl ?_ ?_
        rotate_left
        · intro w1 hSw; (try dsimp only at hSw); go_split_ands; go_simp; (try with_reducible rfl)
        (try simp only [Act.put, pu1, pu2, pu3])
        refine tkI 10 24 (v := ?_) rfl rfl ?_ ?_
        rotate_left
        · intro w1 hSw; (try dsimp only at hSw); go_split_ands; go_simp; (try with_reducible rfl)
        (try simp only [Act.put, pu1, pu2, pu3])
        refine tkI 11 25 (v := ?_) rfl rfl ?_ ?_
        rotate_left
        · intro w1 hSw; (try dsimp only at hSw); go_split_ands; go_simp; (try with_reducible rfl)
        (try simp only [Act.put, pu1, pu2, pu3])
        refine tkI 12 26 (v := ?_) rfl rfl ?_ ?_
        rotate_left
        · intro w1 hSw; (try dsimp only at hSw); go_split_ands; go_simp; (try with_reducible rfl)
        (try simp only [Act.put, pu1, pu2, pu3])
        refine tkI 13 27 (v := ?_) rfl rfl ?_ ?_
        rotate_left
        · intro w1 hSw; (try dsimp only at hSw); go_split_ands; go_simp; (try with_reducible rfl)
        (try simp only [Act.put, pu1, pu2, pu3])
        refine tkI 14 28 (v := ?_) rfl rfl ?_ ?_
        rotate_left
        · intro w1 hSw; (try dsimp only at hSw); go_split_ands; go_simp; (try with_reducible rfl)
        (try simp only [Act.put, pu1, pu2, pu3])
        refine tkI 15 29 (v := ?_) rfl rfl ?_ ?_
        rotate_left
        · intro w1 hSw; (try dsimp only at hSw); go_split_ands; go_simp; (try with_reducible rfl)
        (try simp only [Act.put, pu1, pu2, pu3])
        refine tkI 16 30 (v := ?_) rfl rfl ?_ ?_
        rotate_left
        · intro w1 hSw; (try dsimp only at hSw); go_split_ands; go_simp; (try with_reducible rfl)
        (try simp only [Act.put, pu1, pu2, pu3])
        refine tkI 17 31 (v := ?_) rfl rfl ?_ ?_
        rotate_left
        · intro w1 hSw; (try dsimp only at hSw); go_split_ands; go_simp; (try with_reducible rfl)
        (try simp only [Act.put, pu1, pu2, pu3])
        refine tkI 18 32 (v := ?_) rfl rfl ?_ ?_
        rotate_left
        · intro w1 hSw; (try dsimp only at hSw); go_split_ands; go_simp; (try with_reducible rfl)
        (try simp only [Act.put, pu1, pu2, pu3])
        refine tkI 19 33 (v := ?_) rfl rfl ?_ ?_
        rotate_left
        · intro w1 hSw; (try dsimp only at hSw); go_split_ands; go_simp; (try with_reducible rfl)
        (try simp only [Act.put, pu1, pu2, pu3])
        refine tkI 20 34 (v := ?_) rfl rfl ?_ ?_
        rotate_left
        · intro w1 hSw; (try dsimp only at hSw); go_split_ands; go_simp; (try with_reducible rfl)
        (try simp only [Act.put, pu1, pu2, pu3])
        refine tkI 21 35 (v := ?_) rfl rfl ?_ ?_
        rotate_left
        · intro w1 hSw; (try dsimp only at hSw); go_split_ands; go_simp; (try with_reducible rfl)
        (try simp only [Act.put, pu1, pu2, pu3])
        refine tkI 22 36 (v := ?_) rfl rfl ?_ ?_
        rotate_left
        · intro w1 hSw; (try dsimp only at hSw); go_split_ands; go_simp; (try with_reducible rfl)
        (try simp only [Act.put, pu1, pu2, pu3])
        refine tkI 23 37 (v := ?_) rfl rfl ?_ ?_
        rotate_left
        · intro w1 hSw; (try dsimp only at hSw); go_split_ands; go_simp; (try with_reducible rfl)
        (try simp only [Act.put, pu1, pu2, pu3])
        refine tkI 24 38 (v := ?_) rfl rfl ?_ ?_
        rotate_left
        · intro w1 hSw; (try dsimp only at hSw); go_split_ands; go_simp; (try with_reducible rfl)
        (try simp only [Act.put, pu1, pu2, pu3])
        refine tkI 25 39 (v := ?_) rfl rfl ?_ ?_
        rotate_left
        · intro w1 hSw; (try dsimp only at hSw); go_split_ands; go_simp; (try with_reducible rfl)
        (try simp only [Act.put, pu1, pu2, pu3])
        refine tkI 26 40 (v := ?_) rfl rfl ?_ ?_
        rotate_left
        · intro w1 hSw; (try dsimp only at hSw); go_split_ands; go_simp; (try with_reducible rfl)
        (try simp only [Act.put, pu1, pu2, pu3])
        refine wpAnyH_done (by kernel_rfl) ?_ _
        have g1 := hHeld2.1
        clear hw ht
        obtain ⟨r0, r1, r2⟩ := (Three.below K0.out (Below.and hb.out g1) (by simp)).cells
        have c4 := cell_kept g1 a4
        clear hHeld hHeld2
        go_wp2
        go_roundw
        case rel => exact ⟨k + 1, f.c, s + f.g, by omega, by go_num, rfl, by omega, by omega, by omega, by rw [Hid, HG.out, ← hse.out], hee.out.trans HN.out, fun h => by omega, HP.out, Below.and hb.out g1⟩
        case measure => simp [intOf]; omega
  · have hz : k = E.length := by omega
    have HEt := Lib.hid (show entsB 0 E = true by rw [hee.out, hz, List.drop_length]; rfl)
    have HGs := Lib.hid (show s = goldE E by have := hse.out; rw [hz, List.take_length] at this; exact this)
    have HF2 := Lib.hid (RdI.below HF.out hb.out)
    have HL2 := Lib.hid (RdJ.below HL.out hb.out)
    clear hz
    go_wp2
    go_loop [3, 5] (fun sv i => ∃ (j : Nat) (t : Int), j ≤ F.length ∧ i = .int .i64 j ∧ sv = .int .i64 t ∧ 0 ≤ t ∧ t ≤ 20 * k + 20 * j ∧ Hid (t = s + (F.take j).sum) ∧ Hid (allB F 20 = allB (F.drop j) 20)) (fun _ i => F.length - (intOf i).toNat)
    case atStart => exact ⟨0, s, Nat.zero_le _, rfl, rfl, by omega, by omega, by simp [Hid], by simp [Hid]⟩
    case round =>
     obtain ⟨j, t, hj, rfl, rfl, ht0, ht1, hte, hae⟩ := hrel
     by_cases hlt2 : j < F.length
     · obtain ⟨g, rfl, a0⟩ := HF2.out j hlt2
       have HD := Lib.hid (List.drop_eq_getElem_cons hlt2)
       have HS := Lib.hid (sum_step F j hlt2)
       generalize F[j] = v at a0 HD HS
       have i0 : (0 : Int) ≤ (j : Int) := by omega
       have i1 : (j : Int) < (F.length : Int) := by omega
       rcases h2 : inB v 0 20 with _ | _
       · go_wp2_with (go_at_call 58; refine (specIn _ _ _ _).mono ?_; rintro e w' ⟨rfl, rfl⟩; rw [h2])
         go_light
         go_ret
         exact ⟨ret_bool (by rw [gokB, hae.out, HD.out, allB, List.all_cons, h2]; simp), below_box hb.out⟩
       · have hv : 0 ≤ v ∧ v ≤ 20 := by simpa [inB] using h2
         obtain ⟨hv0, hv1⟩ := hv
         have HN := Lib.hid (show allB (F.drop j) 20 = allB (F.drop (j + 1)) 20 by rw [HD.out, allB, List.all_cons, h2, Bool.true_and]; rfl)
         go_wp2_with (go_at_call 58; refine (specIn _ _ _ _).mono ?_; rintro e w' ⟨rfl, rfl⟩; rw [h2])
         go_round
         case rel => exact ⟨j + 1, t + v, by omega, by go_num, rfl, by omega, by omega, by rw [Hid, HS.out, hte.out]; omega, hae.out.trans HN.out⟩
         case measure => simp [intOf]; omega
     · have hz : j = F.length := by omega
       have HAF := Lib.hid (show allB F 20 = true by rw [hae.out, hz, List.drop_length]; rfl)
       have HTS := Lib.hid (show t = s + F.sum by have := hte.out; rw [hz, List.take_length] at this; exact this)
       clear hz
       go_wp2
       go_loop [6] (fun i => ∃ (m : Nat), m ≤ L.length ∧ i = .int .i64 m ∧ Hid (allB L 30 = allB (L.drop m) 30)) (fun i => L.length - (intOf i).toNat)
       case atStart => exact ⟨0, Nat.zero_le _, rfl, by simp [Hid]⟩
       case round =>
        obtain ⟨m, hm, rfl, hle⟩ := hrel
        by_cases hlt3 : m < L.length
        · obtain ⟨g, o, rfl, a0⟩ := HL2.out m hlt3
          have HD := Lib.hid (List.drop_eq_getElem_cons hlt3)
          generalize L[m] = v at a0 HD
          have i0 : (0 : Int) ≤ (m : Int) := by omega
          have i1 : (m : Int) < (L.length : Int) := by omega
          rcases h2 : inB v 0 30 with _ | _
          · go_wp2_with (go_at_call 58; refine (specIn _ _ _ _).mono ?_; rintro e w' ⟨rfl, rfl⟩; rw [h2])
            go_light
            go_ret
            exact ⟨ret_bool (by rw [gokB, hle.out, HD.out]; simp [allB, h2]), below_box hb.out⟩
          · have HN := Lib.hid (show allB (L.drop m) 30 = allB (L.drop (m + 1)) 30 by rw [HD.out, allB, List.all_cons, h2, Bool.true_and]; rfl)
            go_wp2_with (go_at_call 58; refine (specIn _ _ _ _).mono ?_; rintro e w' ⟨rfl, rfl⟩; rw [h2])
            go_round
            case rel => exact ⟨m + 1, by omega, by go_num, hle.out.trans HN.out⟩
            case measure => simp [intOf]; omega
        · have hz : m = L.length := by omega
          have HAL := Lib.hid (show allB L 30 = true by rw [hle.out, hz, List.drop_length]; rfl)
          have HV := Lib.hid (show gokB E F L = (((F.length : Int) == 16) && (((L.length : Int) == 4) && (t == 20))) by
           rw [gokB, HEt.out, HAF.out, HAL.out, HTS.out, HGs.out, Int.add_comm]
           rw [Bool.eq_iff_iff]
           simp
           omega)
          clear hz
          rcases e1 : ((F.length : Int) == 16) with _ | _
          all_goals rcases e2 : ((L.length : Int) == 4) with _ | _
          all_goals go_wp2
          all_goals go_light
          all_goals go_ret
          all_goals exact ⟨ret_bool (by rw [HV.out, e1, e2]; rfl), below_box hb.out⟩

theorem l2Ok (A : Option Addr) (a : Nat) (B : Option Addr) (b : Nat) (C : Option Addr) (c : Nat) (E : List Fig) (F L : List Int) (w : World) (hE : E.length ≤ 1048576) (hF : F.length ≤ 1048576) (hL : L.length ≤ 1048576)
 (rE : RdF w A E) (rF : RdI w B F) (rL : RdI w C L) :
 Calls Try.prog 45 #[gameV A E.length a B F.length b C L.length c] w fun e w' => e = .returned (.bool (gokB E F L)) ∧ Below w.heap.size w w' :=
 l2OkJ A a B b C c E F L w hE hF hL rE rF rL.j

end Go.Proofs.Ytagjkngiijmokaa

/- The exact law of a new game, walked. -/
namespace Go.Proofs.Ytagjkngiijmokaa
open Go.ChangeShapes Go.WideShapes Go.ChangeAt Go.RowKit
set_option linter.unusedVariables false

/-- A game's cells hold marks, in order, from 1 on. -/
structure Marked (w : World) (A B C : Option Addr) (n m l : Nat) : Prop where
 ents : RdM w A (n * 5) 1
 floor : RdM w B m (1 + 5 * (n : Int))
 last : RdM w C l (1 + 5 * (n : Int) + (m : Int))

theorem Marked.below {w w' : World} {A B C : Option Addr} {n m l : Nat} (h : Marked w A B C n m l) (hb : Below w.heap.size w w') : Marked w' A B C n m l := ⟨h.ents.below hb, h.floor.below hb, h.last.below hb⟩

theorem mark_game {w : World} {lo hi : Nat} {A B C : Option Addr} {a b c : Nat} {E : List Fig} {F L : List Int} (h : GameAt w lo hi A a B b C c E F L)
 (n m l : Nat) (hn : E.length = n) (hm : F.length = m) (hl : L.length = l) (v : Int) (hv : v = 1 + 5 * (n : Int) + (m : Int) + (l : Int)) (hE : n ≤ 1048576) (hF : m ≤ 1048576) (hL : l ≤ 1048576) (hhi : hi ≤ w.heap.size) :
 Calls Try.prog 19 #[gameV A n a B m b C l c, .int .i64 1] w fun e w' => e = .returned (.int .i64 v) ∧ Keeps lo hi w w' ∧ Marked w' A B C n m l := by
 subst hn hm hl hv
 exact (markGame 1 h (by omega) (by omega) hE hF hL hhi).mono fun e w' ⟨he, hk, h1, h2, h3⟩ => ⟨he, hk, h1, h2, h3⟩

theorem held_game {w : World} {A B C : Option Addr} {a b c : Nat} (n m l : Nat) (h : Marked w A B C n m l) (v : Int) (hv : v = 1 + 5 * (n : Int) + (m : Int) + (l : Int)) (hE : n ≤ 1048576) (hF : m ≤ 1048576) (hL : l ≤ 1048576) :
 Calls Try.prog 20 #[gameV A n a B m b C l c, .int .i64 1] w fun e w' => e = .returned (.int .i64 v) ∧ Below w.heap.size w w' := by
 subst hv
 exact heldGame 1 (by omega) (by omega) hE hF hL h.ents h.floor h.last

end Go.Proofs.Ytagjkngiijmokaa
