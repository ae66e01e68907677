import Derived.Test.YtameldhdegcpoaaMB
import Derived.Test.YtameldhdegcpoaaMA
import Derived.RegionTactic
import Derived.Deep.DeepCutAuto
import Derived.Deep.Slices
import Derived.Lib.SmallJoins
import Derived.IntWalk
import Derived.Deep.RegionHeld3
namespace Go.Proofs.Ytameldhdegcpoaa
open Go.ChangeShapes Go.WideShapes Go.ChangeAt Go.RowKit
set_option linter.unusedVariables false
set_option maxRecDepth 100000 in
theorem eqIntS (A B : Option Addr) (c d : Nat) (la lb : List Int) (w : World) (hA : la.length ≤ maxLen) (hB : lb.length ≤ maxLen) (ha : RdI w A la) (hb : RdI w B lb) :
 Calls Try.prog 24 #[.slice A la.length c, .slice B lb.length d] w fun e w' => e = .returned (.bool (decide (la = lb))) ∧ ∃ m, w' = w.drewN m := by
 unfold maxLen at hA hB
 have HA := Lib.hid ha
 have HB := Lib.hid hb
 clear ha hb
 by_cases hl : la.length = lb.length
 · have hl1 : ((la.length : Int) != (lb.length : Int)) = false := by simp [hl]
   have HL := Lib.hid hl
   clear hl
   go_enter Try.func24, Try.ntmps24
   go_wp2
   go_loopw [5] (fun i wr => ∃ k m : Nat, k ≤ la.length ∧ i = .int .i64 k ∧ wr = w.drewN m ∧ Hid (la.take k = lb.take k)) (fun i _ => la.length - (intOf i).toNat)
   case atStart => exact ⟨0, 0, Nat.zero_le _, rfl, rfl, by simp [Hid]⟩
   case round =>
    obtain ⟨k, m, hk, rfl, rfl, ht⟩ := hrel
    by_cases hlt : k < la.length
    · have hltb : k < lb.length := by have := HL.out; omega
      obtain ⟨g, rfl, hg⟩ := HA.out k hlt
      obtain ⟨g', rfl, hg'⟩ := HB.out k hltb
      obtain ⟨x, hx⟩ : ∃ x, x = la[k] := ⟨_, rfl⟩
      obtain ⟨y, hy⟩ : ∃ y, y = lb[k] := ⟨_, rfl⟩
      rw [← hx] at hg
      rw [← hy] at hg'
      have HX := Lib.hid hx
      have HY := Lib.hid hy
      clear hx hy
      have i0 : (0 : Int) ≤ (k : Int) := by omega
      have i1 : (k : Int) < (la.length : Int) := by omega
      have i2 : (k : Int) < (lb.length : Int) := by omega
      rcases hxy : (x != y) with _ | _
      · go_wp2_with (fail)
        go_quiet (fail)
        go_wp2
        go_roundw
        case rel => exact ⟨k + 1, _, by omega, by go_num, rfl, take_step hlt hltb ht.out (by rw [← HX.out, ← HY.out]; simpa using hxy)⟩
        case measure => simp [intOf]; omega
      · go_wp2_with (fail)
        go_quiet (fail)
        go_wp2
        go_ret
        exact ⟨ret_bool (decide_eq_false (ne_of_at hlt hltb (by rw [← HX.out, ← HY.out]; simpa using hxy))).symm, m + nq, World.drewN_drewN ..⟩
    · have hz : k = la.length := by omega
      have HZ := Lib.hid hz
      clear hz
      go_wp2
      go_ret
      have h1 := ht.out
      rw [HZ.out, List.take_length, HL.out, List.take_length] at h1
      exact ⟨ret_bool (decide_eq_true h1).symm, m, rfl⟩
 · have hl1 : ((la.length : Int) != (lb.length : Int)) = true := by simp; omega
   have HL := Lib.hid hl
   clear hl
   go_enter Try.func24, Try.ntmps24
   go_wp2
   go_ret
   exact ⟨ret_bool (decide_eq_false (fun e => HL.out (by rw [e]))).symm, 0, rfl⟩
set_option maxRecDepth 100000 in
theorem markIntS (base : Nat) (A : Option Addr) (c n : Nat) (xs : List Value) (k : Int) (w : World) (h0 : 0 ≤ k) (h1 : k + n ≤ 4611686018427387904) (hn : n ≤ maxLen) (hown : w.ownsRow base 3 1 (.slice A n c) n xs) :
 Calls Try.prog 25 #[.slice A n c, .int .i64 k] w fun e w' => e = .returned (.int .i64 (k + n)) ∧ w'.ownsRow base 3 1 (.slice A n c) n (ints (marks k n)) ∧ w.grownBy w' (Value.slice A n c).ownBlock := by
 unfold maxLen at hn
 have HO := Lib.hid hown
 have hxl : n = xs.length := by have := hown.1; omega
 have HX := Lib.hid hxl
 clear hown hxl
 go_enter Try.func25, Try.ntmps25
 go_wp2
 go_loopw [1, 5] (fun kk i wr => ∃ j : Nat, j ≤ n ∧ i = .int .i64 j ∧ kk = .int .i64 (k + j) ∧ Hid (wr.ownsRow base 3 1 (.slice A n c) n (ints (marks k j) ++ xs.drop j)) ∧ Hid (w.grownBy wr (Value.slice A n c).ownBlock)) (fun _ i _ => n - (intOf i).toNat)
 case atStart => exact ⟨0, Nat.zero_le _, rfl, by simp, by simpa [Hid, marks] using HO.out, World.grownBy.refl _ _⟩
 case round =>
  obtain ⟨j, hj, rfl, rfl, ho, hg⟩ := hrel
  by_cases hlt : j < n
  · obtain ⟨g, rfl, hb, _⟩ := own_some ho.out (by omega)
    have hf := ho.out.frozenAt j
    have hc : wr.cell? ⟨g, j, none⟩ = (ints (marks k j) ++ xs.drop j)[j]? := ho.out.cellAt j (by omega)
    have hst := ho.out.stored j (.int .i64 (k + (j : Int)))
    rw [set_marks k j xs (by have := HX.out; omega)] at hst
    obtain ⟨hs1, hs2⟩ := hst
    have H1 := Lib.hid hs1
    have H2 := Lib.hid (grownBy_trans hg.out hs2)
    clear hs1 hs2 hb
    obtain ⟨u, hu⟩ : ∃ u, (ints (marks k j) ++ xs.drop j)[j]? = some u := ⟨_, List.getElem?_eq_getElem (by have := HX.out; simp; omega)⟩
    rw [hu] at hc
    clear hu
    have i0 : (0 : Int) ≤ (j : Int) := by omega
    have i1 : (j : Int) < (n : Int) := by omega
    go_wp2
    go_roundw
    case rel => exact ⟨j + 1, by omega, by go_num, by go_num, H1.out, H2.out⟩
    case measure => simp [intOf]; omega
  · have hz : j = n := by omega
    have HZ := Lib.hid hz
    clear hz
    go_wp2
    go_ret
    have := ho.out
    rw [HZ.out] at this ⊢
    rw [List.drop_of_length_le (by have := HX.out; omega), List.append_nil] at this
    exact ⟨rfl, this, hg.out⟩
set_option maxRecDepth 100000 in
theorem heldIntS (A : Option Addr) (c n : Nat) (k : Int) (w : World) (h0 : 0 ≤ k) (h1 : k + n ≤ 4611686018427387904) (hn : n ≤ maxLen) (hr : RdI w A (marks k n)) :
 Calls Try.prog 26 #[.slice A n c, .int .i64 k] w fun e w' => e = .returned (.int .i64 (k + n)) ∧ w' = w := by
 unfold maxLen at hn
 have HR := Lib.hid hr
 clear hr
 go_enter Try.func26, Try.ntmps26
 go_wp2
 go_loop [1, 5] (fun kk i => ∃ j : Nat, j ≤ n ∧ i = .int .i64 j ∧ kk = .int .i64 (k + j)) (fun _ i => n - (intOf i).toNat)
 case atStart => exact ⟨0, Nat.zero_le _, rfl, by simp⟩
 case round =>
  obtain ⟨j, hj, rfl, rfl⟩ := hrel
  by_cases hlt : j < n
  · obtain ⟨g, rfl, hc⟩ := HR.out j (by simpa using hlt)
    rw [marks_at] at hc
    have i0 : (0 : Int) ≤ (j : Int) := by omega
    have i1 : (j : Int) < (n : Int) := by omega
    have e0 : ((k + (j : Int)) != (k + (j : Int))) = false := by simp
    go_wp2
    go_round
    case rel => exact ⟨j + 1, by omega, by go_num, by go_num⟩
    case measure => simp [intOf]; omega
  · have hz : j = n := by omega
    have HZ := Lib.hid hz
    clear hz
    go_wp2
    go_ret
    rw [HZ.out]
    exact ⟨rfl, rfl⟩
end Go.Proofs.Ytameldhdegcpoaa
namespace Go.Proofs.Ytameldhdegcpoaa
open Go.ChangeShapes Go.WideShapes Go.ChangeAt Go.RowKit
set_option linter.unusedVariables false
theorem eqEnt (a b : Fig) (w : World) :
 Calls Try.prog 83 #[a.val, b.val] w fun e w' => e = .returned (.bool (decide (a = b))) ∧ Below w.heap.size w w' := by
 obtain ⟨c, x, y, l, g⟩ := a
 obtain ⟨c', x', y', l', g'⟩ := b
 go_enter Try.func83, Try.ntmps83
 go_wp2
 all_goals go_light
 all_goals go_ret
 all_goals refine ⟨ret_bool ?_, ((Below.refl _ _).alloc (Nat.le_refl _) _).alloc (by simp) _⟩
 all_goals (simp_all)
set_option maxRecDepth 100000 in
theorem eqEntS (A B : Option Addr) (c d : Nat) (la lb : List Fig) (w : World) (hA : la.length ≤ maxLen) (ha : RdF w A la) (hb : RdF w B lb) :
 Calls Try.prog 50 #[.slice A la.length c, .slice B lb.length d] w fun e w' => e = .returned (.bool (decide (la = lb))) ∧ Below w.heap.size w w' := by
 unfold maxLen at hA
 have HA := Lib.hid ha
 have HB := Lib.hid hb
 clear ha hb
 by_cases hl : la.length = lb.length
 · have hl1 : ((la.length : Int) != (lb.length : Int)) = false := by simp [hl]
   have HL := Lib.hid hl
   clear hl
   go_enter Try.func50, Try.ntmps50
   go_wp2
   go_loopw [5] (fun i wr => ∃ k : Nat, k ≤ la.length ∧ i = .int .i64 k ∧ Hid (Below w.heap.size w wr) ∧ Hid (la.take k = lb.take k)) (fun i _ => la.length - (intOf i).toNat)
   case atStart => exact ⟨0, Nat.zero_le _, rfl, Below.refl _ _, by simp [Hid]⟩
   case round =>
    obtain ⟨k, hk, rfl, hbw, ht⟩ := hrel
    by_cases hlt : k < la.length
    · have hltb : k < lb.length := by have := HL.out; omega
      obtain ⟨g, rfl, a0, a1, a2, a3, a4⟩ := RdF.below HA.out hbw.out k hlt
      obtain ⟨g', rfl, b0, b1, b2, b3, b4⟩ := RdF.below HB.out hbw.out k hltb
      obtain ⟨x, hx⟩ : ∃ x, x = la[k] := ⟨_, rfl⟩
      obtain ⟨y, hy⟩ : ∃ y, y = lb[k] := ⟨_, rfl⟩
      rw [← hx] at a0 a1 a2 a3 a4
      rw [← hy] at b0 b1 b2 b3 b4
      have HX := Lib.hid hx
      have HY := Lib.hid hy
      clear hx hy
      have i0 : (0 : Int) ≤ (k : Int) := by omega
      have i1 : (k : Int) < (la.length : Int) := by omega
      have i2 : (k : Int) < (lb.length : Int) := by omega
      by_cases hxy : x = y
      · subst hxy
        go_wp2_with (fail)
        refine wp_region_still_tail 8 (by kernel_rfl) (by kernel_rfl) ?_
        change wpStill _ _ (World.drew _) (fun a' => wpList _ _ _ _ a' (World.drew _)) _ _
        simp only [List.take_succ_cons, List.take_zero, List.drop_succ_cons, List.drop_zero]
        repeat still_step
        refine wpStill_nil ?_
        go_wp2_with (fail)
        refine (eqEnt x x _).mono ?_
        rintro e w1 ⟨rfl, h1⟩
        rw [decide_eq_true rfl]
        go_wp2
        go_roundw
        case rel => exact ⟨k + 1, by omega, by go_num, Below.and hbw.out (Below.and (Below.refl _ _).drew h1), take_step hlt hltb ht.out (by rw [← HX.out, ← HY.out])⟩
        case measure => simp [intOf]; omega
      · have hd := Lib.hid hxy
        clear hxy
        go_wp2_with (fail)
        refine wp_region_still_tail 8 (by kernel_rfl) (by kernel_rfl) ?_
        change wpStill _ _ (World.drew _) (fun a' => wpList _ _ _ _ a' (World.drew _)) _ _
        simp only [List.take_succ_cons, List.take_zero, List.drop_succ_cons, List.drop_zero]
        repeat still_step
        refine wpStill_nil ?_
        go_wp2_with (fail)
        refine (eqEnt x y _).mono ?_
        rintro e w1 ⟨rfl, h1⟩
        rw [decide_eq_false hd.out]
        go_wp2
        go_ret
        exact ⟨ret_bool (decide_eq_false (ne_of_at hlt hltb (by rw [← HX.out, ← HY.out]; exact hd.out))).symm, Below.and hbw.out (Below.and (Below.refl _ _).drew h1)⟩
    · have hz : k = la.length := by omega
      have HZ := Lib.hid hz
      clear hz
      go_wp2
      go_ret
      have h1 := ht.out
      rw [HZ.out, List.take_length, HL.out, List.take_length] at h1
      exact ⟨ret_bool (decide_eq_true h1).symm, hbw.out⟩
 · have hl1 : ((la.length : Int) != (lb.length : Int)) = true := by simp; omega
   have HL := Lib.hid hl
   clear hl
   go_enter Try.func50, Try.ntmps50
   go_wp2
   go_ret
   exact ⟨ret_bool (decide_eq_false (fun e => HL.out (by rw [e]))).symm, Below.refl _ _⟩
end Go.Proofs.Ytameldhdegcpoaa
namespace Go.Proofs.Ytameldhdegcpoaa
open Go.ChangeShapes Go.WideShapes Go.ChangeAt Go.RowKit
set_option linter.unusedVariables false
set_option maxRecDepth 100000 in
theorem markEntS (base : Nat) (A : Option Addr) (c n : Nat) (xs : List Value) (k : Int) (w : World) (h0 : 0 ≤ k) (h1 : k + 5 * n ≤ 4611686018427387904) (hn : n ≤ maxLen) (hown : w.ownsRow base 72 5 (.slice A n c) n xs) :
 Calls Try.prog 53 #[.slice A n c, .int .i64 k] w fun e w' => e = .returned (.int .i64 (k + 5 * n)) ∧ w'.ownsRow base 72 5 (.slice A n c) n (ints (marks k (n * 5))) ∧ w.grownBy w' (Value.slice A n c).ownBlock := by
 unfold maxLen at hn
 have HO := Lib.hid hown
 have hxl : n * 5 = xs.length := by have := hown.1; omega
 have HX := Lib.hid hxl
 clear hown hxl
 go_enter Try.func53, Try.ntmps53
 go_wp2
 go_loopw [1, 5] (fun kk i wr => ∃ j : Nat, j ≤ n ∧ i = .int .i64 j ∧ kk = .int .i64 (k + 5 * j) ∧ Hid (wr.ownsRow base 72 5 (.slice A n c) n (ints (marks k (j * 5)) ++ xs.drop (j * 5))) ∧ Hid (w.grownBy wr (Value.slice A n c).ownBlock)) (fun _ i _ => n - (intOf i).toNat)
 case atStart => exact ⟨0, Nat.zero_le _, rfl, by simp, by simpa [Hid, marks] using HO.out, World.grownBy.refl _ _⟩
 case round =>
  obtain ⟨j, hj, rfl, rfl, ho, hg⟩ := hrel
  by_cases hlt : j < n
  · obtain ⟨g, rfl, hb, _⟩ := own_some ho.out (by omega)
    have hf := fun p => ho.out.frozenAt p
    have hc : ∀ p, p < 5 → ∃ u, wr.cell? ⟨g, j * 5 + p, none⟩ = some u := fun p hp => ⟨_, (ho.out.cellAt (j * 5 + p) (by omega)).trans (List.getElem?_eq_getElem (by have := HX.out; simp; omega))⟩
    obtain ⟨u0, hu0⟩ := hc 0 (by omega)
    obtain ⟨u1, hu1⟩ := hc 1 (by omega)
    obtain ⟨u2, hu2⟩ := hc 2 (by omega)
    obtain ⟨u3, hu3⟩ := hc 3 (by omega)
    obtain ⟨u4, hu4⟩ := hc 4 (by omega)
    rw [Nat.add_zero] at hu0
    clear hc
    have i0 : (0 : Int) ≤ (j : Int) := by omega
    have i1 : (j : Int) < (n : Int) := by omega
    obtain ⟨m1, m2⟩ := mark5 (k := k) (xs := xs) j hlt HX.out ho.out
    have M1 := Lib.hid m1
    have M2 := Lib.hid (grownBy_trans hg.out m2)
    clear m1 m2
    go_wp2
    go_roundw
    case rel => exact ⟨j + 1, by omega, by go_num, by go_num, M1.out, M2.out⟩
    case measure => simp [intOf]; omega
  · have hz : j = n := by omega
    have HZ := Lib.hid hz
    clear hz
    go_wp2
    go_ret
    have := ho.out
    rw [HZ.out] at this ⊢
    rw [List.drop_of_length_le (by have := HX.out; omega), List.append_nil] at this
    exact ⟨rfl, this, hg.out⟩
set_option maxRecDepth 100000 in
theorem heldEntS (A : Option Addr) (c n : Nat) (k : Int) (w : World) (h0 : 0 ≤ k) (h1 : k + 5 * n ≤ 4611686018427387904) (hn : n ≤ maxLen) (hr : RdM w A (n * 5) k) :
 Calls Try.prog 54 #[.slice A n c, .int .i64 k] w fun e w' => e = .returned (.int .i64 (k + 5 * n)) ∧ w' = w := by
 unfold maxLen at hn
 have HR := Lib.hid hr
 clear hr
 go_enter Try.func54, Try.ntmps54
 go_wp2
 go_loop [1, 5] (fun kk i => ∃ j : Nat, j ≤ n ∧ i = .int .i64 j ∧ kk = .int .i64 (k + 5 * j)) (fun _ i => n - (intOf i).toNat)
 case atStart => exact ⟨0, Nat.zero_le _, rfl, by simp⟩
 case round =>
  obtain ⟨j, hj, rfl, rfl⟩ := hrel
  by_cases hlt : j < n
  · obtain ⟨g, rfl, c0⟩ := HR.out (j * 5) (by omega)
    obtain ⟨g1, e1, c1⟩ := HR.out (j * 5 + 1) (by omega)
    obtain ⟨g2, e2, c2⟩ := HR.out (j * 5 + 2) (by omega)
    obtain ⟨g3, e3, c3⟩ := HR.out (j * 5 + 3) (by omega)
    obtain ⟨g4, e4, c4⟩ := HR.out (j * 5 + 4) (by omega)
    cases e1; cases e2; cases e3; cases e4
    rw [show k + ((j * 5 : Nat) : Int) = k + 5 * (j : Int) from by omega] at c0
    rw [show k + ((j * 5 + 1 : Nat) : Int) = k + 5 * (j : Int) + 1 from by omega] at c1
    rw [show k + ((j * 5 + 2 : Nat) : Int) = k + 5 * (j : Int) + 1 + 1 from by omega] at c2
    rw [show k + ((j * 5 + 3 : Nat) : Int) = k + 5 * (j : Int) + 1 + 1 + 1 from by omega] at c3
    rw [show k + ((j * 5 + 4 : Nat) : Int) = k + 5 * (j : Int) + 1 + 1 + 1 + 1 from by omega] at c4
    have i0 : (0 : Int) ≤ (j : Int) := by omega
    have i1 : (j : Int) < (n : Int) := by omega
    go_wp2
    go_round
    case rel => exact ⟨j + 1, by omega, by go_num, by go_num⟩
    case measure => simp [intOf]; omega
  · have hz : j = n := by omega
    have HZ := Lib.hid hz
    clear hz
    go_wp2
    go_ret
    rw [HZ.out]
    exact ⟨rfl, rfl⟩
end Go.Proofs.Ytameldhdegcpoaa
namespace Go.Proofs.Ytameldhdegcpoaa
open Go.ChangeShapes Go.WideShapes Go.ChangeAt Go.RowKit
set_option linter.unusedVariables false
theorem boxed2 {w w1 : World} {o o' : Obj} (hb : Below ((w.alloc o).alloc o').heap.size ((w.alloc o).alloc o') w1) (k : Nat) : w1.cell? ⟨w.heap.size, k, none⟩ = ((w.alloc o).alloc o').cell? ⟨w.heap.size, k, none⟩ := hb.cell (by simp; omega)
theorem boxed2' {w w1 : World} {o o' : Obj} (hb : Below ((w.alloc o).alloc o').heap.size ((w.alloc o).alloc o') w1) (k : Nat) : w1.cell? ⟨w.heap.size + 1, k, none⟩ = ((w.alloc o).alloc o').cell? ⟨w.heap.size + 1, k, none⟩ := hb.cell (by simp)
abbrev gameV (A : Option Addr) (n a : Nat) (B : Option Addr) (m b : Nat) (C : Option Addr) (l c : Nat) : Value := .agg #[.slice A n a, .slice B m b, .slice C l c]
theorem below_alloc2 (w : World) (o o' : Obj) : Below w.heap.size w ((w.alloc o).alloc o') := ((Below.refl _ _).alloc (Nat.le_refl _) _).alloc (by simp) _
set_option maxRecDepth 100000 in
theorem eqGame (A B C A' B' C' : Option Addr) (a b c a' b' c' : Nat) (E E' : List Fig) (F F' L L' : List Int) (w : World)
 (hE : E.length ≤ maxLen) (hF : F.length ≤ maxLen) (hF' : F'.length ≤ maxLen) (hL : L.length ≤ maxLen) (hL' : L'.length ≤ maxLen)
 (r1 : RdF w A E) (r2 : RdI w B F) (r3 : RdI w C L) (r1' : RdF w A' E') (r2' : RdI w B' F') (r3' : RdI w C' L') :
 Calls Try.prog 15 #[gameV A E.length a B F.length b C L.length c, gameV A' E'.length a' B' F'.length b' C' L'.length c'] w fun e w' => e = .returned (.bool (decide (E = E' ∧ F = F' ∧ L = L'))) ∧ Below w.heap.size w w' := by
 have H1 := Lib.hid r1; have H2 := Lib.hid r2; have H3 := Lib.hid r3; have H1' := Lib.hid r1'; have H2' := Lib.hid r2'; have H3' := Lib.hid r3'
 clear r1 r2 r3 r1' r2' r3'
 go_enter Try.func15, Try.ntmps15
 go_wp2_with (fail)
 have B0 := below_alloc2 w (.cells #[.slice A E.length a, .slice B F.length b, .slice C L.length c] 29) (.cells #[.slice A' E'.length a', .slice B' F'.length b', .slice C' L'.length c'] 29)
 refine (eqEntS A A' a a' E E' _ hE (RdF.below H1.out B0) (RdF.below H1'.out B0)).mono ?_
 rintro e w1 ⟨rfl, h1⟩
 have k1 := boxed2 h1; have k1' := boxed2' h1
 rcases he : decide (E = E') with _ | _
 · go_wp2
   go_light
   go_ret
   exact ⟨ret_bool (by simp at he; simp [he]), Below.and B0 h1⟩
 have HEE := Lib.hid (of_decide_eq_true he)
 clear he
 go_wp2_with (fail)
 refine (eqIntS B B' b b' F F' _ hF hF' (RdI.below H2.out (Below.and B0 h1)) (RdI.below H2'.out (Below.and B0 h1))).mono ?_
 rintro e w2 ⟨rfl, m2, rfl⟩
 rcases he : decide (F = F') with _ | _
 · go_wp2
   go_light
   go_ret
   exact ⟨ret_bool (by simp at he; simp [he]), Below.drewN (Below.and B0 h1) _⟩
 have HFF := Lib.hid (of_decide_eq_true he)
 clear he
 go_wp2_with (fail)
 refine (eqIntS C C' c c' L L' _ hL hL' ((RdI.below H3.out (Below.and B0 h1)).drewN _) ((RdI.below H3'.out (Below.and B0 h1)).drewN _)).mono ?_
 rintro e w2 ⟨rfl, m3, rfl⟩
 rcases he : decide (L = L') with _ | _
 · go_wp2
   go_light
   go_ret
   exact ⟨ret_bool (by simp at he; simp [he]), by first | exact Below.drewN (Below.drewN (Below.and B0 h1) _) _ | exact Below.drewN (Below.and B0 h1) _⟩
 have HLL := Lib.hid (of_decide_eq_true he)
 clear he
 go_wp2
 go_light
 go_ret
 exact ⟨ret_bool (by rw [decide_eq_true (And.intro HEE.out (And.intro HFF.out HLL.out))]), by first | exact Below.drewN (Below.drewN (Below.and B0 h1) _) _ | exact Below.drewN (Below.and B0 h1) _⟩
theorem boxed1 {w w1 : World} {o : Obj} {row : Option Nat} (hg : (w.alloc o).grownBy w1 row) (hr : row ≠ some w.heap.size) (k : Nat) : w1.cell? ⟨w.heap.size, k, none⟩ = (w.alloc o).cell? ⟨w.heap.size, k, none⟩ :=
 World.cell?_of_block (w := w.alloc o) (hg.block w.heap.size (by simp) (Ne.symm hr))
structure GameAt (w : World) (lo hi : Nat) (A : Option Addr) (a : Nat) (B : Option Addr) (b : Nat) (C : Option Addr) (c : Nat) (E : List Fig) (F L : List Int) : Prop where
 ents : w.ownsRow lo 72 5 (.slice A E.length a) E.length (figs E)
 floor : w.ownsRow lo 3 1 (.slice B F.length b) F.length (ints F)
 last : w.ownsRow lo 3 1 (.slice C L.length c) L.length (ints L)
 two : ∀ g, (Value.slice B F.length b).ownBlock = some g → (Value.slice C L.length c).ownBlock ≠ some g
 entsHi : ∀ g, (Value.slice A E.length a).ownBlock = some g → g < hi
 floorHi : ∀ g, (Value.slice B F.length b).ownBlock = some g → g < hi
 lastHi : ∀ g, (Value.slice C L.length c).ownBlock = some g → g < hi
section
variable {w w' : World} {lo hi : Nat} {A : Option Addr} {a : Nat} {B : Option Addr} {b : Nat} {C : Option Addr} {c : Nat} {E : List Fig} {F L : List Int}
theorem GameAt.same (h : GameAt w lo hi A a B b C c E F L) (hk : ∀ k, lo ≤ k → k < hi → w'.heap[k]? = w.heap[k]?) : GameAt w' lo hi A a B b C c E F L :=
 ⟨own_same h.ents fun k e => hk k (h.ents.lt k e).1 (h.entsHi k e), own_same h.floor fun k e => hk k (h.floor.lt k e).1 (h.floorHi k e), own_same h.last fun k e => hk k (h.last.lt k e).1 (h.lastHi k e), h.two, h.entsHi, h.floorHi, h.lastHi⟩
theorem GameAt.below (h : GameAt w lo hi A a B b C c E F L) (hb : Below w.heap.size w w') : GameAt w' lo hi A a B b C c E F L :=
 ⟨own_below h.ents hb, own_below h.floor hb, own_below h.last hb, h.two, h.entsHi, h.floorHi, h.lastHi⟩
theorem GameAt.keeps {lo' hi' : Nat} (h : GameAt w lo hi A a B b C c E F L) (hk : Keeps lo' hi' w w') (ho : hi ≤ lo' ∨ hi' ≤ lo) : GameAt w' lo hi A a B b C c E F L :=
 ⟨own_same h.ents fun k e => hk.block k (h.ents.lt k e).2 (by have := (h.ents.lt k e).1; have := h.entsHi k e; omega), own_same h.floor fun k e => hk.block k (h.floor.lt k e).2 (by have := (h.floor.lt k e).1; have := h.floorHi k e; omega),
  own_same h.last fun k e => hk.block k (h.last.lt k e).2 (by have := (h.last.lt k e).1; have := h.lastHi k e; omega), h.two, h.entsHi, h.floorHi, h.lastHi⟩
end
set_option maxRecDepth 100000 in
theorem markGame {w : World} {lo hi : Nat} {A : Option Addr} {a : Nat} {B : Option Addr} {b : Nat} {C : Option Addr} {c : Nat} {E : List Fig} {F L : List Int} (k : Int) (h : GameAt w lo hi A a B b C c E F L)
 (h0 : 0 ≤ k) (h1 : k ≤ 1) (hE : E.length ≤ 1048576) (hF : F.length ≤ 1048576) (hL : L.length ≤ 1048576) (hhi : hi ≤ w.heap.size) :
 Calls Try.prog 18 #[gameV A E.length a B F.length b C L.length c, .int .i64 k] w fun e w' => e = .returned (.int .i64 (k + 5 * E.length + F.length + L.length)) ∧ Keeps lo hi w w' ∧
  RdM w' A (E.length * 5) k ∧ RdM w' B F.length (k + 5 * E.length) ∧ RdM w' C L.length (k + 5 * E.length + F.length) := by
 have H := Lib.hid h
 clear h
 go_enter Try.func18, Try.ntmps18
 go_wp2_with (fail)
 have B0 : Below w.heap.size w (w.alloc (.cells #[.slice A E.length a, .slice B F.length b, .slice C L.length c] 29)) := (Below.refl _ _).alloc (Nat.le_refl _) _
 have H0 := Lib.hid (H.out.below B0)
 refine (markEntS lo A a E.length (figs E) k _ h0 (by omega) (by unfold maxLen; omega) H0.out.ents).mono ?_
 rintro e w1 ⟨rfl, m1, g1⟩
 have M1 := Lib.hid m1
 have G1 := Lib.hid g1
 have k1 := boxed1 g1 (fun e => by have := H.out.entsHi _ e; omega)
 clear m1 g1
 go_wp2_with (fail)
 have hne1 := own_row_ne H0.out.ents H0.out.floor (by decide)
 have hne2 := own_row_ne H0.out.ents H0.out.last (by decide)
 have F1 := Lib.hid (H0.out.floor.kept G1.out (not_row fun g hb e => hne1 g e hb))
 have L1 := Lib.hid (H0.out.last.kept G1.out (not_row fun g hb e => hne2 g e hb))
 have hz1 : w.heap.size < w1.heap.size := by have := G1.out.size; simp at this; omega
 have N1 := Lib.hid hne1
 have N2 := Lib.hid hne2
 clear hne1 hne2
 refine (markIntS lo B b F.length (ints F) (k + 5 * E.length) _ (by omega) (by omega) (by unfold maxLen; omega) F1.out).mono ?_
 rintro e w2 ⟨rfl, m2, g2⟩
 have M2 := Lib.hid m2
 have G2 := Lib.hid g2
 have k2 : ∀ j, w2.cell? ⟨w.heap.size, j, none⟩ = (w.alloc (.cells #[.slice A E.length a, .slice B F.length b, .slice C L.length c] 29)).cell? ⟨w.heap.size, j, none⟩ := fun j =>
  (World.cell?_of_block (w := w1) (G2.out.block w.heap.size hz1 (fun e => by have := H.out.floorHi _ e.symm; omega))).trans (k1 j)
 clear m2 g2
 go_wp2_with (fail)
 have L2 := Lib.hid (L1.out.kept G2.out (not_row fun g hb e => H.out.two g e hb))
 have E2 := Lib.hid (M1.out.kept G2.out (not_row fun g hb e => N1.out g hb e))
 refine (markIntS lo C c L.length (ints L) (k + 5 * E.length + F.length) _ (by omega) (by omega) (by unfold maxLen; omega) L2.out).mono ?_
 rintro e w3 ⟨rfl, m3, g3⟩
 have M3 := Lib.hid m3
 have G3 := Lib.hid g3
 clear m3 g3
 have E3 := Lib.hid (E2.out.kept G3.out (not_row fun g hb e => N2.out g hb e))
 have F3 := Lib.hid (M2.out.kept G3.out (not_row fun g hb e => H.out.two g hb e))
 go_wp2
 go_light
 go_ret
 refine ⟨rfl, ?_, RdM.of_own E3.out, ?_, ?_⟩
 · exact (Keeps.of_below B0).trans ((Keeps.of_grown G1.out fun g e => ⟨(H.out.ents.lt g e).1, H.out.entsHi g e⟩).trans ((Keeps.of_grown G2.out fun g e => ⟨(H.out.floor.lt g e).1, H.out.floorHi g e⟩).trans
    (Keeps.of_grown G3.out fun g e => ⟨(H.out.last.lt g e).1, H.out.lastHi g e⟩)))
 · have := RdM.of_own (size := 1) (n := F.length) (by simpa using F3.out)
   simpa using this
 · have := RdM.of_own (size := 1) (n := L.length) (by simpa using M3.out)
   simpa using this
set_option maxRecDepth 100000 in
theorem heldGame {w : World} {A : Option Addr} {n a : Nat} {B : Option Addr} {m b : Nat} {C : Option Addr} {l c : Nat} (k : Int)
 (h0 : 0 ≤ k) (h1 : k ≤ 1) (hE : n ≤ 1048576) (hF : m ≤ 1048576) (hL : l ≤ 1048576) (r1 : RdM w A (n * 5) k) (r2 : RdM w B m (k + 5 * n)) (r3 : RdM w C l (k + 5 * n + m)) :
 Calls Try.prog 19 #[gameV A n a B m b C l c, .int .i64 k] w fun e w' => e = .returned (.int .i64 (k + 5 * n + m + l)) ∧ Below w.heap.size w w' := by
 have B0 : Below w.heap.size w (w.alloc (.cells #[.slice A n a, .slice B m b, .slice C l c] 29)) := (Below.refl _ _).alloc (Nat.le_refl _) _
 have H1 := Lib.hid (RdM.below r1 B0); have H2 := Lib.hid (RdM.below r2 B0).ints; have H3 := Lib.hid (RdM.below r3 B0).ints
 clear r1 r2 r3
 go_enter Try.func19, Try.ntmps19
 go_wp2_with (fail)
 refine (heldEntS A a n k _ h0 (by omega) (by unfold maxLen; omega) H1.out).mono ?_
 rintro e w1 ⟨rfl, rfl⟩
 have d1 : decide (k + 5 * (n : Int) < 0) = false := by simp; omega
 go_wp2_with (fail)
 refine (heldIntS B b m (k + 5 * n) _ (by omega) (by omega) (by unfold maxLen; omega) H2.out).mono ?_
 rintro e w1 ⟨rfl, rfl⟩
 have d2 : decide (k + 5 * (n : Int) + (m : Int) < 0) = false := by simp; omega
 go_wp2_with (fail)
 refine (heldIntS C c l (k + 5 * n + m) _ (by omega) (by omega) (by unfold maxLen; omega) H3.out).mono ?_
 rintro e w1 ⟨rfl, rfl⟩
 have d3 : decide (k + 5 * (n : Int) + (m : Int) + (l : Int) < 0) = false := by simp; omega
 go_wp2
 go_light
 go_ret
 exact ⟨rfl, B0⟩
end Go.Proofs.Ytameldhdegcpoaa
namespace Go.Proofs.Ytameldhdegcpoaa
open Go.ChangeShapes Go.WideShapes Go.ChangeAt Go.RowKit
set_option linter.unusedVariables false
def floorAt : Nat → List Int
 | 0 => List.replicate 16 0
 | k + 1 => (floorAt k).set (5 * k % 16) ((floorAt k).getD (5 * k % 16) 0 + 1)
theorem floorAt_length (k : Nat) : (floorAt k).length = 16 := by
 induction k with
 | zero => rfl
 | succ k ih => simp [floorAt, ih]
theorem floorAt_bd : ∀ k, k < 20 → 0 ≤ (floorAt k).getD (5 * k % 16) 0 ∧ (floorAt k).getD (5 * k % 16) 0 ≤ 20 := by decide
theorem make16 (w : World) : (Instr.makeSlice 27 (.int .i64 16) (.int .i64 16)).run Try.prog w = .ok (.slice (some ⟨w.heap.size, 0, none⟩) 16 16) (w.alloc (.cells (List.replicate 16 (.int .i64 0)).toArray 3)) := by kernel_rfl
theorem make4 (w : World) : (Instr.makeSlice 27 (.int .i64 4) (.int .i64 4)).run Try.prog w = .ok (.slice (some ⟨w.heap.size, 0, none⟩) 4 4) (w.alloc (.cells #[.int .i64 0, .int .i64 0, .int .i64 0, .int .i64 0] 3)) := by kernel_rfl
def zeros16 : Array Value := (List.replicate 16 (.int .i64 0)).toArray
def NewAt (w : World) (e : Ending) (w' : World) : Prop :=
 ∃ B b C c, e = .returned (gameV none 0 0 B 16 b C 4 c) ∧ GameAt w' w.heap.size w'.heap.size none 0 B b C c [] (floorAt 20) [0, 0, 0, 0] ∧ Below w.heap.size w w'
set_option maxRecDepth 100000 in
theorem gameNew (w : World) :
 Calls Try.prog 61 #[] w (NewAt w) := by
 have m16 : ∀ w : World, (Instr.makeSlice 27 (.int .i64 16) (.int .i64 16)).run Try.prog w = .ok (.slice (some ⟨w.heap.size, 0, none⟩) 16 16) (w.alloc (.cells zeros16 3)) := make16
 have m4 := make4
 go_enter Try.func61, Try.ntmps61
 go_wp2
 go_loopw [4] (fun i wr => ∃ k : Nat, k ≤ 20 ∧ i = .int .i64 k ∧ Hid (wr.ownsRow (w.heap.size + 1) 3 1 (.slice (some ⟨w.heap.size + 1, 0, none⟩) 16 16) 16 (ints (floorAt k))) ∧
  Hid (((w.alloc (.cells #[.slice none 0 0, .slice none 0 0, .slice none 0 0] 29)).alloc (.cells zeros16 3)).grownBy wr (some (w.heap.size + 1)))) (fun i _ => 20 - (intOf i).toNat)
 case atStart =>
  refine ⟨0, Nat.zero_le _, rfl, ?_, World.grownBy.refl _ _⟩
  have := World.ownsRow_lit (base := w.heap.size + 1) (e := 3) (size := 1) (w.alloc (.cells #[.slice none 0 0, .slice none 0 0, .slice none 0 0] 29)) zeros16 16 (by simp) (by unfold maxLen; omega) rfl
  simpa [Hid, zeros16, floorAt, ints] using this
 case round =>
  obtain ⟨k, hk, rfl, ho, hg⟩ := hrel
  by_cases hlt : k < 20
  · have hb := floorAt_bd k hlt
    have hc : wr.cell? ⟨w.heap.size + 1, 5 * k % 16, none⟩ = some (.int .i64 ((floorAt k).getD (5 * k % 16) 0)) := by
     rw [ho.out.cellAt _ (by omega), List.getElem?_map, List.getElem?_eq_getElem (by rw [floorAt_length]; omega)]
     simp [List.getD_eq_getElem?_getD, List.getElem?_eq_getElem (show 5 * k % 16 < (floorAt k).length by rw [floorAt_length]; omega)]
    have hf := ho.out.frozenAt (5 * k % 16)
    have hst := ho.out.stored (5 * k % 16) (.int .i64 ((floorAt k).getD (5 * k % 16) 0 + 1))
    rw [show (ints (floorAt k)).set (5 * k % 16) (.int .i64 ((floorAt k).getD (5 * k % 16) 0 + 1)) = ints (floorAt (k + 1)) from by rw [floorAt, ints, ints, List.map_set]] at hst
    have S1 := Lib.hid hst.1
    have S2 := Lib.hid (grownBy_trans hg.out hst.2)
    clear hst
    obtain ⟨v, hv⟩ : ∃ v, v = (floorAt k).getD (5 * k % 16) 0 := ⟨_, rfl⟩
    rw [← hv] at hc hb S1 S2
    have HV := Lib.hid hv
    clear hv
    obtain ⟨hb1, hb2⟩ := hb
    have i0 : (0 : Int) ≤ (k : Int) := by omega
    have i1 : (0 : Int) ≤ 5 * (k : Int) % 16 := by omega
    have i2 : 5 * (k : Int) % 16 < 16 := by omega
    go_wp2
    go_roundw
    case rel => exact ⟨k + 1, by omega, by go_num, S1.out, S2.out⟩
    case measure => simp [intOf]; omega
  · have hz : k = 20 := by omega
    subst hz
    have hlt0 : w.heap.size < ((w.alloc (.cells #[.slice none 0 0, .slice none 0 0, .slice none 0 0] 29)).alloc (.cells zeros16 3)).heap.size := by simp; omega
    have hsz : w.heap.size + 1 < wr.heap.size := by have := hg.out.size; simp at this; omega
    have hblk : wr.heap[w.heap.size]? = some (.cells #[.slice none 0 0, .slice none 0 0, .slice none 0 0] 29) := by
     rw [hg.out.block w.heap.size hlt0 (by simp), Below.heap_alloc _ _ _ (by simp)]
     exact heap_alloc_new w _
    have q0 : ∀ j, (wr.alloc (.cells #[.int .i64 0, .int .i64 0, .int .i64 0, .int .i64 0] 3)).cell? ⟨w.heap.size, j, none⟩ = (#[Value.slice none 0 0, Value.slice none 0 0, Value.slice none 0 0] : Array Value)[j]? := fun j => by
     rw [World.cell?_alloc_lt _ _ _ (by simp; omega)]
     exact cell_of_row wr w.heap.size j _ 29 (0, 0) hblk
    have qf : ∀ j, (wr.alloc (.cells #[.int .i64 0, .int .i64 0, .int .i64 0, .int .i64 0] 3)).frozen? ⟨w.heap.size, j, none⟩ = false := fun j => by
     rw [World.frozen?_alloc_old _ _ _ (by simp; omega)]
     exact frozen_of_row wr w.heap.size j _ 29 hblk
    have c0 := q0 0
    have c1 := q0 1
    have c2 := q0 2
    have f0 := qf 0
    have f1 := qf 1
    have f2 := qf 2
    simp at c0 c1 c2
    have HB := Lib.hid hblk
    clear q0 qf hlt0 hblk
    go_wp2
    go_light
    refine bodyPost_ret (v := gameV none 0 0 (some ⟨w.heap.size + 1, 0, none⟩) 16 16 (some ⟨wr.heap.size, 0, none⟩) 4 4) (by simp [results, Try.results61, go_sem, c0, c1, c2]) rfl ?_
    have hne : wr.heap.size ≠ w.heap.size := by omega
    have G := grownBy_set3 (wr.alloc (.cells #[.int .i64 0, .int .i64 0, .int .i64 0, .int .i64 0] 3)) w.heap.size (.slice none 0 0) (.slice (some ⟨w.heap.size + 1, 0, none⟩) 16 16) (.slice (some ⟨wr.heap.size, 0, none⟩) 4 4)
    have hown4 := World.ownsRow_lit (base := w.heap.size) (e := 3) (size := 1) wr #[.int .i64 0, .int .i64 0, .int .i64 0, .int .i64 0] 4 (by omega) (by unfold maxLen; omega) rfl
    refine ⟨some ⟨w.heap.size + 1, 0, none⟩, 16, some ⟨wr.heap.size, 0, none⟩, 4, rfl, ⟨World.ownsRow_nil _ _ _ _, ?_, ?_, ?_, ?_, ?_, ?_⟩, ?_⟩
    · exact (own_base (ho.out.alloc _) (by omega)).kept G (.inr (by simp [Value.ownBlock]))
    · exact hown4.kept G (.inr (by simp [Value.ownBlock]; omega))
    · intro g hg; simp [Value.ownBlock] at hg ⊢; omega
    · intro g hg; simp [Value.ownBlock] at hg
    · intro g hg; simp [Value.ownBlock] at hg; subst hg; have := G.size; simp at this ⊢; omega
    · intro g hg; simp [Value.ownBlock] at hg; subst hg; have := G.size; simp at this ⊢
    · refine Below.trans (((Below.refl _ _).alloc (Nat.le_refl _) _).alloc (by simp) _) (Below.trans (Below.of_grown hg.out (by simp; omega) (by rintro k hk; cases hk; omega)) ?_)
      exact ((Below.refl _ _).alloc (by omega) _).trans (Below.of_grown G (by simp; omega) (by rintro k hk; cases hk; omega))
end Go.Proofs.Ytameldhdegcpoaa
namespace Go.Proofs.Ytameldhdegcpoaa
open Go.ChangeShapes Go.WideShapes Go.ChangeAt Go.RowKit
set_option linter.unusedVariables false
def NewMid (w : World) (p : Value) (wx : World) : Prop :=
 ∃ G g4 gl : Nat, p = .pointer (some ⟨G, 0, none⟩) ∧ wx.heap[G]? = some (.cells #[.slice none 0 0, .slice (some ⟨g4, 0, none⟩) 16 16, .slice (some ⟨gl, 0, none⟩) 4 4] 29) ∧ wx.heap[w.heap.size]? = some (.cells #[.slice none 0 0, .slice none 0 0, .slice none 0 0] 29) ∧
  wx.ownsRow (w.heap.size + 1) 3 1 (.slice (some ⟨g4, 0, none⟩) 16 16) 16 (ints (floorAt 0)) ∧ wx.ownsRow (w.heap.size + 1) 3 1 (.slice (some ⟨gl, 0, none⟩) 4 4) 4 (ints [0, 0, 0, 0]) ∧ g4 ≠ gl ∧ w.heap.size < G ∧ Below w.heap.size w wx
theorem grownBy_drew {w w' : World} {row : Option Nat} (h : w.grownBy w' row) : w.grownBy w'.drew row := ⟨h.os, h.tape, h.output, h.size, h.block⟩
theorem own_ne_block {w : World} {base g G : Nat} {e t : TypeId} {size n c : Nat} {xs : List Value} {cs : Array Value} (h : w.ownsRow base e size (.slice (some ⟨g, 0, none⟩) n c) n xs) (hG : w.heap[G]? = some (.cells cs t)) (hne : e ≠ t) : G ≠ g := by
 rintro rfl
 rcases h.2 with ⟨h', _⟩ | ⟨g', cap', cur, h', _, hg, _⟩
 · simp at h'
 · simp only [Value.slice.injEq, Option.some.injEq, Addr.mk.injEq, and_true, true_and] at h'
   obtain ⟨rfl, rfl⟩ := h'
   rw [hG] at hg
   simp only [Option.some.injEq, Obj.cells.injEq] at hg
   exact hne hg.2.1.symm
set_option maxRecDepth 100000 in
theorem l2New (w : World) :
 Calls Try.prog 80 #[] w (NewAt w) := by
 have m16 : ∀ w : World, (Instr.makeSlice 27 (.int .i64 16) (.int .i64 16)).run Try.prog w = .ok (.slice (some ⟨w.heap.size, 0, none⟩) 16 16) (w.alloc (.cells zeros16 3)) := make16
 have m4 := make4
 go_enter Try.func80, Try.ntmps80
 go_upto_region 1 with fail
 go_cut [1] (fun p wx => NewMid w p wx)
 case first =>
  go_region
  all_goals go_wp2_with fail
  all_goals go_meet
  all_goals
   apply Exists.intro
   apply Exists.intro
   apply Exists.intro
   refine ⟨rfl, ?_, ?_, ?_, ?_, ?_, ?_, ?_⟩
   · exact (by first | exact (four_at _ _ _ _ _).2.1 | exact (four_at _ _ _ _ _).2.2.1 | exact (four_at _ _ _ _ _).2.2.2)
   · exact (four_at _ _ _ _ _).1
   · exact own_of_block (cur := zeros16) (by first | exact (four_at _ _ _ _ _).2.1 | exact (four_at _ _ _ _ _).2.2.1 | exact (four_at _ _ _ _ _).2.2.2) (by omega) (by unfold maxLen; omega) rfl rfl
   · exact own_of_block (cur := #[.int .i64 0, .int .i64 0, .int .i64 0, .int .i64 0]) (by first | exact (four_at _ _ _ _ _).2.1 | exact (four_at _ _ _ _ _).2.2.1 | exact (four_at _ _ _ _ _).2.2.2) (by omega) (by unfold maxLen; omega) rfl rfl
   · omega
   · omega
   · exact below_four _ _ _ _ _
 case rest =>
  obtain ⟨G, g4, gl, rfl, hG, hR, ho, hl, hne, hlt, hb⟩ := hcut
  have hlg : gl ≥ w.heap.size + 1 ∧ gl < wc.heap.size := hl.lt gl rfl
  have hGne : G ≠ g4 := own_ne_block ho hG (by decide)
  have hGlt : G < wc.heap.size := by
   rcases Nat.lt_or_ge G wc.heap.size with h | h
   · exact h
   · rw [Array.getElem?_eq_none h] at hG; cases hG
  have HG := Lib.hid hG
  have HR := Lib.hid hR
  have HO := Lib.hid ho
  have HL := Lib.hid hl
  have HB := Lib.hid hb
  have HN := Lib.hid hne
  have cG : ∀ j, wc.cell? ⟨G, j, none⟩ = (#[Value.slice none 0 0, Value.slice (some ⟨g4, 0, none⟩) 16 16, Value.slice (some ⟨gl, 0, none⟩) 4 4] : Array Value)[j]? := fun j => cell_of_row wc G j _ 29 (0, 0) HG.out
  clear hG hR ho hl hb hne
  go_wp2_with (fail)
  go_loopw [2] (fun i wr => ∃ k : Nat, k ≤ 20 ∧ i = .int .i64 k ∧ Hid (wr.ownsRow (w.heap.size + 1) 3 1 (.slice (some ⟨g4, 0, none⟩) 16 16) 16 (ints (floorAt k))) ∧ Hid (wc.grownBy wr (some g4))) (fun i _ => 20 - (intOf i).toNat)
  case atStart => exact ⟨0, Nat.zero_le _, rfl, HO.out, World.grownBy.refl _ _⟩
  case round =>
   obtain ⟨k, hk, rfl, ho, hg⟩ := hrel
   have cG' : ∀ j, wr.cell? ⟨G, j, none⟩ = (#[Value.slice none 0 0, Value.slice (some ⟨g4, 0, none⟩) 16 16, Value.slice (some ⟨gl, 0, none⟩) 4 4] : Array Value)[j]? := fun j =>
    (World.cell?_of_block (w := wc) (a := ⟨G, j, none⟩) (hg.out.block G hGlt (by simpa using hGne))).trans (cG j)
   by_cases hlt2 : k < 20
   · have hb := floorAt_bd k hlt2
     rw [show 5 * k = k * 5 from Nat.mul_comm _ _] at hb
     have hc : wr.cell? ⟨g4, k * 5 % 16, none⟩ = some (.int .i64 ((floorAt k).getD (k * 5 % 16) 0)) := by
      rw [ho.out.cellAt _ (by omega), List.getElem?_map, List.getElem?_eq_getElem (by rw [floorAt_length]; omega)]
      simp [List.getD_eq_getElem?_getD, List.getElem?_eq_getElem (show k * 5 % 16 < (floorAt k).length by rw [floorAt_length]; omega)]
     have hf := ho.out.frozenAt (k * 5 % 16)
     have hst := ho.out.stored (k * 5 % 16) (.int .i64 ((floorAt k).getD (k * 5 % 16) 0 + 1))
     rw [show (ints (floorAt k)).set (k * 5 % 16) (.int .i64 ((floorAt k).getD (k * 5 % 16) 0 + 1)) = ints (floorAt (k + 1)) from by rw [floorAt, ints, ints, List.map_set, Nat.mul_comm]] at hst
     have S1 := Lib.hid hst.1
     have S2 := Lib.hid (grownBy_trans hg.out hst.2)
     clear hst
     obtain ⟨v, hv⟩ : ∃ v, v = (floorAt k).getD (k * 5 % 16) 0 := ⟨_, rfl⟩
     rw [← hv] at hc hb S1 S2
     have HV := Lib.hid hv
     clear hv
     obtain ⟨hb1, hb2⟩ := hb
     have i0 : (0 : Int) ≤ (k : Int) := by omega
     have i1 : (0 : Int) ≤ (k : Int) * 5 % 16 := by omega
     have i2 : (k : Int) * 5 % 16 < 16 := by omega
     have g1 := cG' 1
     simp at g1
     clear cG cG'
     go_wp2_with (fail)
     go_region
     go_wp2
     go_roundw
     case rel => exact ⟨k + 1, by omega, by go_num, S1.out, grownBy_drew S2.out⟩
     case measure => simp [intOf]; omega
   · have hz : k = 20 := by omega
     subst hz
     have hR : wr.heap[w.heap.size]? = some (.cells #[.slice none 0 0, .slice none 0 0, .slice none 0 0] 29) :=
      (hg.out.block w.heap.size (by omega) (by have := (HO.out.lt g4 rfl).1; simp; omega)).trans HR.out
     have cR : ∀ j, wr.cell? ⟨w.heap.size, j, none⟩ = (#[Value.slice none 0 0, Value.slice none 0 0, Value.slice none 0 0] : Array Value)[j]? := fun j => cell_of_row wr w.heap.size j _ 29 (0, 0) hR
     have fR : ∀ j, wr.frozen? ⟨w.heap.size, j, none⟩ = false := fun j => frozen_of_row wr w.heap.size j _ 29 hR
     have g0 := cG' 0; have g1 := cG' 1; have g2 := cG' 2
     have r0 := cR 0; have r1 := cR 1; have r2 := cR 2
     have f0 := fR 0; have f1 := fR 1; have f2 := fR 2
     simp at g0 g1 g2 r0 r1 r2
     have HRR := Lib.hid hR
     clear cG cG' cR fR hR
     go_wp2
     go_light
     have G := grownBy_set3 wr w.heap.size (.slice none 0 0) (.slice (some ⟨g4, 0, none⟩) 16 16) (.slice (some ⟨gl, 0, none⟩) 4 4)
     have hg4 := HO.out.lt g4 rfl
     refine bodyPost_ret (v := gameV none 0 0 (some ⟨g4, 0, none⟩) 16 16 (some ⟨gl, 0, none⟩) 4 4) (by simp [results, Try.results80, go_sem, r0, r1, r2]) rfl ?_
     have hs := hg.out.size
     have hs2 := G.size
     refine ⟨some ⟨g4, 0, none⟩, 16, some ⟨gl, 0, none⟩, 4, rfl, ⟨World.ownsRow_nil _ _ _ _, ?_, ?_, ?_, ?_, ?_, ?_⟩, ?_⟩
     · exact (own_base ho.out (by omega)).kept G (.inr (by simp [Value.ownBlock]; omega))
     · exact (own_base (HL.out.kept hg.out (.inr (by simp [Value.ownBlock]; exact fun e => HN.out e.symm))) (by omega)).kept G (.inr (by simp [Value.ownBlock]; omega))
     · intro g hg; simp [Value.ownBlock] at hg ⊢; have := HN.out; omega
     · intro g hg; simp [Value.ownBlock] at hg
     · intro g hg; simp [Value.ownBlock] at hg; omega
     · intro g hg; simp [Value.ownBlock] at hg; omega
     · exact Below.trans HB.out (Below.trans (Below.of_grown hg.out (by omega) (by rintro k hk; cases hk; omega)) (Below.of_grown G (by omega) (by rintro k hk; cases hk; omega)))
end Go.Proofs.Ytameldhdegcpoaa
namespace Go.Proofs.Ytameldhdegcpoaa
open Go.ChangeShapes Go.WideShapes Go.ChangeAt Go.RowKit
set_option linter.unusedVariables false
section
variable {H : Type} {enc : TypeId × Value → H} {w : World} {base : Nat} {spare : Nat → Bool} {held : Bool}
theorem addr_of {a : Addr} {u : Value} (h : w.cell? a = some u) : a = ⟨a.block, a.off, none⟩ := by
 obtain ⟨b, o, s⟩ := a
 unfold World.cell? at h
 split at h
 · cases s with
   | none => rfl
   | some _ => simp at h
 · cases h
theorem add_eq (b o n : Nat) : (⟨b, o, none⟩ : Addr).add n = ⟨b, o + n, none⟩ := by
 unfold Addr.add
 split
 · next h => subst h; rfl
 · rfl
theorem ints_of_cells {P : Program} {t : TypeId} {fs : Array Field} {fuel : Nat} {cl : List Value} {x : DataW H × List MemPlace} (hs : P.underlying t = some (.struct fs)) (hone : Go.Deep.oneCellFields P fs = true) (hcl : cl.length = fs.size)
 (hall : fs.toList.map (fun f => P.underlying f.type) = List.replicate fs.size (some (.int .i64))) (h : DataW.trod enc P w base spare held fuel t cl = some x) : ∃ l : List Int, cl = l.map (Value.int .i64) := by
 have hint : ∀ (i : Nat) (f : Field), fs[i]? = some f → P.underlying f.type = some (.int .i64) := by
  intro i f hf
  have h1 : (fs.toList.map (fun f => P.underlying f.type))[i]? = some (P.underlying f.type) := by
   rw [List.getElem?_map]
   simp [hf]
  rw [hall, List.getElem?_replicate] at h1
  split at h1
  · exact (Option.some.inj h1).symm
  · cases h1
 obtain ⟨xs, n, _, _, _, hlen, hg⟩ := DataW.trod_struct hs h
 have key : ∀ (i : Nat) (hi : i < cl.length), ∃ m : Int, cl[i] = .int .i64 m := by
  intro i hi
  have hfi : fs[i]? = some (fs[i]'(by omega)) := Array.getElem?_eq_getElem (by omega)
  obtain ⟨ho, hk⟩ := Go.Deep.hone_of hone i _ hfi
  have h1 := hg i _ hfi
  rw [ho, hk] at h1
  have h2 : (cl.drop i).take 1 = [cl[i]] := by
   rw [List.drop_eq_getElem_cons hi]
   rfl
  rw [h2, show xs[i]? = some (xs[i]'(by omega)) from List.getElem?_eq_getElem (by omega)] at h1
  obtain ⟨m, hm, _, _⟩ := DataW.trod_int (hint i _ hfi) h1
  exact ⟨m, by simpa using hm⟩
 refine ⟨cl.map intOf, ?_⟩
 rw [List.map_map]
 apply List.ext_getElem
 · simp
 · intro i h1 h2
   obtain ⟨m, hm⟩ := key i h1
   simp [hm, intOf]
theorem pick_list {α : Type} {Q : Nat → α → Prop} (n : Nat) (h : ∀ i, i < n → ∃ x, Q i x) : ∃ l : List α, l.length = n ∧ ∀ (i : Nat) (hi : i < l.length), Q i (l[i]'hi) := by
 induction n with
 | zero => exact ⟨[], rfl, fun i hi => absurd hi (by simp)⟩
 | succ k ih =>
  obtain ⟨l, hl, hat⟩ := ih fun i hi => h i (by omega)
  obtain ⟨x, hx⟩ := h k (by omega)
  refine ⟨l ++ [x], by simp [hl], fun i hi => ?_⟩
  rcases Nat.lt_or_ge i l.length with h1 | h1
  · rw [List.getElem_append_left h1]
    exact hat i h1
  · have hik : i = k := by simp at hi; omega
    subst hik
    rw [List.getElem_append_right h1]
    simpa using hx
end
end Go.Proofs.Ytameldhdegcpoaa
namespace Go.Proofs.Ytameldhdegcpoaa
open Go.ChangeShapes Go.WideShapes Go.ChangeAt Go.RowKit
set_option linter.unusedVariables false
def onB (x y : Int) : Bool := inB x 0 3 && inB y 0 3
def entB (e : Fig) : Bool := inB e.c 1 4 && (onB e.x e.y && (inB e.l 0 3 && inB e.g 0 20))
def entsB : Int → List Fig → Bool
 | _, [] => true
 | p, e :: t => decide (p < e.c) && (entB e && entsB e.c t)
def allB (l : List Int) (hi : Int) : Bool := l.all fun n => inB n 0 hi
def goldE (E : List Fig) : Int := (E.map fun e => e.g).sum
theorem onBoard (x y : Int) (w : World) :
 Calls Try.prog 109 #[.int .i64 x, .int .i64 y] w fun e w' => e = .returned (.bool (onB x y)) ∧ w = w' := by
 rcases h1 : inB x 0 3 with _ | _
 all_goals rcases h2 : inB y 0 3 with _ | _
 all_goals go_enter Try.func109, Try.ntmps109
 all_goals go_wp2_with (first | (go_at_call 59; refine (implIn _ _ _ _).mono ?_; rintro e w' ⟨rfl, rfl⟩; first | rw [h1] | rw [h2]))
 all_goals go_ret
 all_goals unfold onB
 all_goals rw [h1, h2]
 all_goals exact ⟨rfl, rfl⟩
set_option maxRecDepth 100000 in
theorem entsOk (A : Option Addr) (c : Nat) (E : List Fig) (w : World) (hE : E.length ≤ maxLen) (hr : RdF w A E) :
 Calls Try.prog 94 #[.slice A E.length c] w fun e w' => e = .returned (.bool (entsB 0 E)) ∧ Below w.heap.size w w' := by
 unfold maxLen at hE
 have HA := Lib.hid hr
 clear hr
 go_enter Try.func94, Try.ntmps94
 go_wp2
 go_loopw [3, 8] (fun pv i wr => ∃ (k : Nat) (p : Int), k ≤ E.length ∧ i = .int .i64 k ∧ pv = .int .i64 p ∧ 0 ≤ p ∧ Hid (entsB 0 E = entsB p (E.drop k)) ∧ Hid (Below w.heap.size w wr)) (fun _ i _ => E.length - (intOf i).toNat)
 case atStart => exact ⟨0, 0, Nat.zero_le _, rfl, rfl, by omega, by simp [Hid], Below.refl _ _⟩
 case round =>
  obtain ⟨k, p, hk, rfl, rfl, hp, he, hb⟩ := hrel
  by_cases hlt : k < E.length
  · obtain ⟨g, rfl, a0, a1, a2, a3, a4⟩ := RdF.below HA.out hb.out k hlt
    have HD := Lib.hid (List.drop_eq_getElem_cons hlt)
    generalize E[k] = f at a0 a1 a2 a3 a4 HD
    have i0 : (0 : Int) ≤ (k : Int) := by omega
    have i1 : (k : Int) < (E.length : Int) := by omega
    have BB := Lib.hid (Below.trans hb.out ((Below.refl wr.heap.size wr).alloc (Nat.le_refl _) (.cells #[.int .i64 f.c, .int .i64 f.x, .int .i64 f.y, .int .i64 f.l, .int .i64 f.g] 72) |>.mono hb.out.size))
    by_cases h1 : f.c ≤ p
    · go_wp2
      go_light
      go_ret
      exact ⟨ret_bool (by rw [he.out, HD.out, entsB, decide_eq_false (by omega)]; rfl), BB.out⟩
    by_cases h2 : 4 < f.c
    · go_wp2
      go_light
      go_ret
      exact ⟨ret_bool (by rw [he.out, HD.out, entsB, entB, inB, decide_eq_false (show ¬ f.c ≤ 4 by omega)]; simp), BB.out⟩
    have hc : inB f.c 1 4 = true := by simp [inB]; omega
    have HC := Lib.hid hc
    clear hc
    rcases h3 : onB f.x f.y with _ | _
    · go_wp2_with (first | (go_at_call 109; refine (onBoard _ _ _).mono ?_; rintro e w' ⟨rfl, rfl⟩; rw [h3]))
      go_light
      go_ret
      exact ⟨ret_bool (by rw [he.out, HD.out, entsB, entB, h3]; simp), BB.out⟩
    rcases h4 : inB f.l 0 3 with _ | _
    · go_wp2_with (first | (go_at_call 109; refine (onBoard _ _ _).mono ?_; rintro e w' ⟨rfl, rfl⟩; rw [h3]) | (go_at_call 59; refine (implIn _ _ _ _).mono ?_; rintro e w' ⟨rfl, rfl⟩; first | rw [h4]))
      go_light
      go_ret
      exact ⟨ret_bool (by rw [he.out, HD.out, entsB, entB, h4]; simp), BB.out⟩
    rcases h5 : inB f.g 0 20 with _ | _
    · go_wp2_with (first | (go_at_call 109; refine (onBoard _ _ _).mono ?_; rintro e w' ⟨rfl, rfl⟩; rw [h3]) | (go_at_call 59; refine (implIn _ _ _ _).mono ?_; rintro e w' ⟨rfl, rfl⟩; first | rw [h4] | rw [h5]))
      go_light
      go_ret
      exact ⟨ret_bool (by rw [he.out, HD.out, entsB, entB, h5]; simp), BB.out⟩
    have HF := Lib.hid (show entsB p (E.drop k) = entsB f.c (E.drop (k + 1)) by rw [HD.out, entsB, entB, HC.out, h3, h4, h5, decide_eq_true (show p < f.c by omega)]; rfl)
    go_wp2_with (first | (go_at_call 109; refine (onBoard _ _ _).mono ?_; rintro e w' ⟨rfl, rfl⟩; rw [h3]) | (go_at_call 59; refine (implIn _ _ _ _).mono ?_; rintro e w' ⟨rfl, rfl⟩; first | rw [h4] | rw [h5]))
    go_roundw
    case rel => exact ⟨k + 1, f.c, by omega, by go_num, rfl, by omega, he.out.trans HF.out, BB.out⟩
    case measure => simp [intOf]; omega
  · have hz : k = E.length := by omega
    have HZ := Lib.hid hz
    clear hz
    go_wp2
    go_ret
    exact ⟨ret_bool (by rw [he.out, HZ.out, List.drop_length]; rfl), hb.out⟩
set_option maxRecDepth 100000 in
theorem allWithin (A : Option Addr) (c : Nat) (l : List Int) (hi : Int) (w : World) (hl : l.length ≤ maxLen) (hr : RdI w A l) :
 Calls Try.prog 95 #[.slice A l.length c, .int .i64 hi] w fun e w' => e = .returned (.bool (allB l hi)) ∧ w = w' := by
 unfold maxLen at hl
 have HA := Lib.hid hr
 clear hr
 go_enter Try.func95, Try.ntmps95
 go_wp2
 go_loop [9] (fun i => ∃ k : Nat, k ≤ l.length ∧ i = .int .i64 k ∧ Hid (allB l hi = allB (l.drop k) hi)) (fun i => l.length - (intOf i).toNat)
 case atStart => exact ⟨0, Nat.zero_le _, rfl, by simp [Hid]⟩
 case round =>
  obtain ⟨k, hk, rfl, he⟩ := hrel
  by_cases hlt : k < l.length
  · obtain ⟨g, rfl, a0⟩ := HA.out k hlt
    have HD := Lib.hid (List.drop_eq_getElem_cons hlt)
    generalize l[k] = v at a0 HD
    have i0 : (0 : Int) ≤ (k : Int) := by omega
    have i1 : (k : Int) < (l.length : Int) := by omega
    rcases h1 : inB v 0 hi with _ | _
    · go_wp2_with (go_at_call 59; refine (implIn _ _ _ _).mono ?_; rintro e w' ⟨rfl, rfl⟩; rw [h1])
      go_light
      go_ret
      exact ⟨ret_bool (by rw [he.out, HD.out, allB, List.all_cons, h1]; rfl), rfl⟩
    · have HF := Lib.hid (show allB (l.drop k) hi = allB (l.drop (k + 1)) hi by rw [HD.out, allB, List.all_cons, h1, Bool.true_and]; rfl)
      go_wp2_with (go_at_call 59; refine (implIn _ _ _ _).mono ?_; rintro e w' ⟨rfl, rfl⟩; rw [h1])
      go_round
      case rel => exact ⟨k + 1, by omega, by go_num, he.out.trans HF.out⟩
      case measure => simp [intOf]; omega
  · have hz : k = l.length := by omega
    have HZ := Lib.hid hz
    clear hz
    go_wp2
    go_ret
    exact ⟨ret_bool (by rw [he.out, HZ.out, List.drop_length]; rfl), rfl⟩
theorem sum_step (l : List Int) (k : Nat) (h : k < l.length) : (l.take (k + 1)).sum = (l.take k).sum + l[k] := by
 rw [List.take_succ_eq_append_getElem h, List.sum_append]
 simp
theorem gold_step (E : List Fig) (k : Nat) (h : k < E.length) : goldE (E.take (k + 1)) = goldE (E.take k) + E[k].g := by
 unfold goldE
 rw [List.take_succ_eq_append_getElem h, List.map_append, List.sum_append]
 simp
theorem gold_bd : ∀ (E : List Fig), (∀ (i : Nat) (h : i < E.length), 0 ≤ (E[i]'h).g ∧ (E[i]'h).g ≤ 20) → 0 ≤ goldE E ∧ goldE E ≤ 20 * (E.length : Int) := by
 intro E
 induction E with
 | nil => intro _; simp [goldE]
 | cons e t ih =>
  intro h
  have h0 := h 0 (by simp)
  simp only [List.getElem_cons_zero] at h0
  have h1 := ih (fun i hi => by have := h (i + 1) (by simp; omega); simpa using this)
  have e1 : goldE (e :: t) = e.g + goldE t := by simp [goldE]
  rw [e1, List.length_cons]
  omega
theorem sum_bd : ∀ (F : List Int), (∀ (i : Nat) (h : i < F.length), 0 ≤ F[i]'h ∧ F[i]'h ≤ 20) → 0 ≤ F.sum ∧ F.sum ≤ 20 * (F.length : Int) := by
 intro F
 induction F with
 | nil => intro _; simp
 | cons e t ih =>
  intro h
  have h0 := h 0 (by simp)
  simp only [List.getElem_cons_zero] at h0
  have h1 := ih (fun i hi => by have := h (i + 1) (by simp; omega); simpa using this)
  rw [List.sum_cons, List.length_cons]
  omega
theorem allWithinB (A : Option Addr) (c : Nat) (l : List Int) (hi : Int) (w : World) (hl : l.length ≤ maxLen) (hr : RdI w A l) :
 Calls Try.prog 95 #[.slice A l.length c, .int .i64 hi] w fun e w' => e = .returned (.bool (allB l hi)) ∧ Below w.heap.size w w' :=
 (allWithin A c l hi w hl hr).mono (fun _ _ h => ⟨h.1, h.2 ▸ Below.refl _ _⟩)
set_option maxRecDepth 100000 in
theorem goldOfFloor (B : Option Addr) (b : Nat) (F : List Int) (w : World) (hF : F.length ≤ 1048576) (gF : ∀ (i : Nat) (h : i < F.length), 0 ≤ F[i]'h ∧ F[i]'h ≤ 20) (rF : RdI w B F) :
 Calls Try.prog 97 #[.slice B F.length b] w fun e w' => e = .returned (.int .i64 F.sum) ∧ Below w.heap.size w w' := by
 have HF := Lib.hid rF
 have GF := Lib.hid gF
 clear rF gF
 go_enter Try.func97, Try.ntmps97
 go_wp2
 go_loop [3, 8] (fun sv i => ∃ (k : Nat) (s : Int), k ≤ F.length ∧ i = .int .i64 k ∧ sv = .int .i64 s ∧ 0 ≤ s ∧ s ≤ 20 * k ∧ Hid (s = (F.take k).sum)) (fun _ i => F.length - (intOf i).toNat)
 case atStart => exact ⟨0, 0, Nat.zero_le _, rfl, rfl, by omega, by omega, by simp [Hid]⟩
 case round =>
  obtain ⟨k, s, hk, rfl, rfl, hs0, hs1, he⟩ := hrel
  by_cases hlt : k < F.length
  · obtain ⟨g, rfl, a0⟩ := HF.out k hlt
    obtain ⟨v0, v1⟩ := GF.out k hlt
    have HS := Lib.hid (sum_step F k hlt)
    generalize F[k] = v at a0 v0 v1 HS
    have i0 : (0 : Int) ≤ (k : Int) := by omega
    have i1 : (k : Int) < (F.length : Int) := by omega
    go_wp2
    go_round
    case rel => exact ⟨k + 1, s + v, by omega, by go_num, rfl, by omega, by omega, by rw [Hid, HS.out, ← he.out]⟩
    case measure => simp [intOf]; omega
  · have hz : k = F.length := by omega
    have HS : Hid (s = F.sum) := by have := he.out; rw [hz, List.take_length] at this; exact this
    clear hz
    go_wp2
    go_ret
    exact ⟨ret_int (by rw [HS.out]), Below.refl _ _⟩
set_option maxRecDepth 100000 in
theorem goldOfEnts (A : Option Addr) (a : Nat) (E : List Fig) (w : World) (hE : E.length ≤ 1048576) (gE : ∀ (i : Nat) (h : i < E.length), 0 ≤ (E[i]'h).g ∧ (E[i]'h).g ≤ 20) (rE : RdF w A E) :
 Calls Try.prog 96 #[.slice A E.length a] w fun e w' => e = .returned (.int .i64 (goldE E)) ∧ Below w.heap.size w w' := by
 have HE := Lib.hid rE
 have GE := Lib.hid gE
 clear rE gE
 go_enter Try.func96, Try.ntmps96
 go_wp2
 go_loopw [3, 8] (fun sv i wr => ∃ (j : Nat) (t : Int), j ≤ E.length ∧ i = .int .i64 j ∧ sv = .int .i64 t ∧ 0 ≤ t ∧ t ≤ 20 * j ∧ Hid (t = goldE (E.take j)) ∧ Hid (Below w.heap.size w wr)) (fun _ i _ => E.length - (intOf i).toNat)
 case atStart => exact ⟨0, 0, Nat.zero_le _, rfl, rfl, by omega, by omega, by simp [Hid, goldE], Below.refl _ _⟩
 case round =>
  obtain ⟨j, t, hj, rfl, rfl, ht0, ht1, hte, hb⟩ := hrel
  by_cases hlt2 : j < E.length
  · obtain ⟨g, rfl, a0, a1, a2, a3, a4⟩ := RdF.below HE.out hb.out j hlt2
    obtain ⟨v0, v1⟩ := GE.out j hlt2
    have HS := Lib.hid (gold_step E j hlt2)
    generalize E[j] = f at a0 a1 a2 a3 a4 v0 v1 HS
    have i0 : (0 : Int) ≤ (j : Int) := by omega
    have i1 : (j : Int) < (E.length : Int) := by omega
    have BB := Lib.hid (Below.trans hb.out ((Below.refl wr.heap.size wr).alloc (Nat.le_refl _) (.cells #[.int .i64 f.c, .int .i64 f.x, .int .i64 f.y, .int .i64 f.l, .int .i64 f.g] 72) |>.mono hb.out.size))
    go_wp2
    go_roundw
    case rel => exact ⟨j + 1, t + f.g, by omega, by go_num, rfl, by omega, by omega, by rw [Hid, HS.out, hte.out], BB.out⟩
    case measure => simp [intOf]; omega
  · have hz2 : j = E.length := by omega
    have HZ2 := Lib.hid hz2
    clear hz2
    go_wp2
    go_ret
    exact ⟨ret_int (by rw [hte.out, HZ2.out, List.take_length]), hb.out⟩
end Go.Proofs.Ytameldhdegcpoaa
namespace Go.Proofs.Ytameldhdegcpoaa
open Go.ChangeShapes Go.WideShapes Go.ChangeAt Go.RowKit
set_option linter.unusedVariables false
def gokB (E : List Fig) (F L : List Int) : Bool :=
 decide (F.length = 16) && (decide (L.length = 4) && (entsB 0 E && (allB F 20 && (allB L 30 && decide (F.sum + goldE E = 20)))))
theorem takeD {P : Program} {ops : Array Oper} {Q : Exit → Act → World → Prop} {md : Region.Mode} {S : World → Prop} (i : Nat) (d : Tmp) {oi : Oper} {v : Value} {fuel : Nat} {listed : Array Bool} {a : Act} {w : World} (hi : ops[i]? = some oi) (hd : oi.dst = some d)
 (hs : Region.noSelect ops = true) (hf : Region.free md ops listed i = true) (hr : (Region.ready md ops listed).contains i = true)
 (hQ : ∀ c a w, Q (.panic c) (a.put (some d) v) w → Q (.panic c) a w) (hy : YieldsIf P ops S oi v a) (hS : S w)
 (h : wpAnyH P md ops Q S fuel (listed.setIfInBounds i true) (a.put (some d) v) w) : wpAnyH P md ops Q S (fuel + 1) listed a w :=
 wpAnyH_take hi hs hf hr (by rw [hd]; exact hQ) hy hS (by rw [hd]; exact h)
theorem tkD {P : Program} {ops : Array Oper} {Q : Exit → Act → World → Prop} {md : Region.Mode} {S : World → Prop} (i : Nat) (d : Tmp) {oi : Oper} {v : Value} {fuel : Nat} {listed : Array Bool} {a : Act} {w : World} (hi : ops[i]? = some oi) (hd : oi.dst = some d)
 (hy : YieldsIf P ops S oi v a) (hS : S w) (h : wpAnyH P md ops Q S fuel (listed.setIfInBounds i true) (a.put (some d) v) w)
 (hs : Region.noSelect ops = true := by kernel_rfl) (hf : Region.free md ops listed i = true := by kernel_rfl) (hr : (Region.ready md ops listed).contains i = true := by kernel_rfl)
 (hQ : ∀ c a w, Q (.panic c) (a.put (some d) v) w → Q (.panic c) a w := by exact fun _ _ _ h => h) : wpAnyH P md ops Q S (fuel + 1) listed a w :=
 takeD i d hi hd hs hf hr hQ hy hS h
theorem tkI {P : Program} {ops : Array Oper} {Q : Exit → Act → World → Prop} {md : Region.Mode} {S : World → Prop} (i : Nat) (d : Tmp) {oi : Oper} {v : Value} {fuel : Nat} {listed : Array Bool} {a : Act} {w : World} (hi : ops[i]? = some oi) (hd : oi.dst = some d)
 (hy : ∀ w, S w → (execOp a.eval oi).run P w = .ok (.value v) w) (h : wpAnyH P md ops Q S fuel (listed.setIfInBounds i true) (a.put (some d) v) w)
 (hg : Region.wanted oi (yielded ops a.tmps) = true := by rfl) (hS : S w := by assumption)
 (hs : Region.noSelect ops = true := by kernel_rfl) (hf : Region.free md ops listed i = true := by kernel_rfl) (hr : (Region.ready md ops listed).contains i = true := by kernel_rfl)
 (hQ : ∀ c a w, Q (.panic c) (a.put (some d) v) w → Q (.panic c) a w := by exact fun _ _ _ h => h) : wpAnyH P md ops Q S (fuel + 1) listed a w :=
 takeD i d hi hd hs hf hr hQ (Or.inl ⟨hg, hy⟩) hS h
theorem entsB_gold : ∀ (E : List Fig) (p : Int), entsB p E = true → ∀ (i : Nat) (h : i < E.length), 0 ≤ (E[i]'h).g ∧ (E[i]'h).g ≤ 20 := by
 intro E
 induction E with
 | nil => intro p _ i h; simp at h
 | cons e t ih =>
  intro p hp i h
  simp only [entsB, entB, inB, Bool.and_eq_true, decide_eq_true_eq] at hp
  rcases i with _ | i
  · simp only [List.getElem_cons_zero]; omega
  · simp only [List.getElem_cons_succ]; exact ih e.c hp.2.2 i (by simpa using h)
theorem allB_at {l : List Int} {hi : Int} (h : allB l hi = true) (i : Nat) (hl : i < l.length) : 0 ≤ l[i]'hl ∧ l[i]'hl ≤ hi := by
 unfold allB at h
 rw [List.all_eq_true] at h
 have := h _ (List.getElem_mem hl)
 simpa [inB] using this
def RdJ (w : World) (A : Option Addr) (l : List Int) : Prop := ∀ i (h : i < l.length), ∃ g o : Nat, A = some ⟨g, o, none⟩ ∧ w.cell? ⟨g, o + i, none⟩ = some (.int .i64 (l[i]'h))
theorem RdI.j {w : World} {A : Option Addr} {l : List Int} (h : RdI w A l) : RdJ w A l := by
 intro i hi
 obtain ⟨g, hA, hc⟩ := h i hi
 exact ⟨g, 0, hA, by simpa using hc⟩
theorem RdJ.below {w w' : World} {A : Option Addr} {l : List Int} (h : RdJ w A l) (hb : Below w.heap.size w w') : RdJ w' A l := by
 intro i hi
 obtain ⟨g, o, rfl, h0⟩ := h i hi
 exact ⟨g, o, rfl, cell_kept hb h0⟩
set_option maxRecDepth 100000 in
set_option maxHeartbeats 4000000 in
theorem gameOkJ (A : Option Addr) (a : Nat) (B : Option Addr) (b : Nat) (C : Option Addr) (c : Nat) (E : List Fig) (F L : List Int) (w : World) (hE : E.length ≤ 1048576) (hF : F.length ≤ 1048576) (hL : L.length ≤ 1048576)
 (rE : RdF w A E) (rF : RdI w B F) (rL : L.length = 4 → RdI w C L) :
 Calls Try.prog 68 #[gameV A E.length a B F.length b C L.length c] w fun e w' => e = .returned (.bool (gokB E F L)) ∧ Below w.heap.size w w' := by
 have z0 : Below w.heap.size w (w.alloc (.cells #[.slice A E.length a, .slice B F.length b, .slice C L.length c] 29)) := (Below.refl _ _).alloc (Nat.le_refl _) _
 have HE := Lib.hid (RdF.below rE z0)
 have HF := Lib.hid (RdI.below rF z0)
 have HL := Lib.hid (fun h => RdI.below (rL h) z0)
 have K0 := Lib.hid (Three.new (u0 := .slice A E.length a) (u1 := .slice B F.length b) (u2 := .slice C L.length c) (t := 29) w)
 have Z0 := Lib.hid z0
 clear rE rF rL z0
 by_cases h1 : ¬ F.length = 16
 · have b1 : ((F.length : Int) != 16) = true := by simp; omega
   have H1 := Lib.hid h1
   clear h1
   go_enter Try.func68, Try.ntmps68
   go_wp2_with (fail)
   go_light
   go_ret
   exact ⟨ret_bool (by rw [gokB, decide_eq_false H1.out]; rfl), Z0.out⟩
 have b1 : ((F.length : Int) != 16) = false := by simp; omega
 have H1 := Lib.hid (show F.length = 16 by omega)
 clear h1
 by_cases h2 : ¬ L.length = 4
 · have b2 : ((L.length : Int) != 4) = true := by simp; omega
   have H2 := Lib.hid h2
   clear h2
   go_enter Try.func68, Try.ntmps68
   go_wp2_with (fail)
   go_light
   go_ret
   exact ⟨ret_bool (by rw [gokB, decide_eq_false H2.out]; simp), Z0.out⟩
 have b2 : ((L.length : Int) != 4) = false := by simp; omega
 have H2 := Lib.hid (show L.length = 4 by omega)
 clear h2
 rcases h3 : entsB 0 E with _ | _
 · go_enter Try.func68, Try.ntmps68
   go_wp2_with (go_at_call 94; refine (entsOk A a E _ (by unfold maxLen; omega) HE.out).mono ?_; rintro e w1 ⟨rfl, hb1⟩; rw [h3])
   go_light
   go_ret
   exact ⟨ret_bool (by rw [gokB, h3]; simp), Below.and Z0.out hb1⟩
 have GE := Lib.hid (entsB_gold E 0 h3)
 go_enter Try.func68, Try.ntmps68
 go_wp2_with (fail)
 refine (entsOk A a E _ (by unfold maxLen; omega) HE.out).mono ?_
 rintro e wz ⟨rfl, hb1⟩
 rw [h3]
 obtain ⟨q0, q1, q2⟩ := (Three.below K0.out hb1 (by simp)).cells
 have HB1 := Lib.hid hb1
 clear hb1
 have hsz : w.heap.size < wz.heap.size := by have := HB1.out.size; simp at this; omega
 rcases h4 : allB F 20 with _ | _
 · go_wp2_with (fail)
   refine wp_region_held_drew (S := fun w1 => Below wz.heap.size wz w1) (by kernel_rfl) ((Below.refl _ _).drew) (fun ha => ?_)
   refine tkI 0 19 (v := ?_) rfl rfl ?_ ?_
   rotate_left
   · intro w1 hSw; obtain ⟨hcS, hfS⟩ := bcell hSw; go_simp; (try with_reducible rfl)
   (try simp only [Act.put, pu1, pu2, pu3])
   refine tkI 1 20 (v := ?_) rfl rfl ?_ ?_
   rotate_left
   · intro w1 hSw; obtain ⟨hcS, hfS⟩ := bcell hSw; go_simp; (try with_reducible rfl)
   (try simp only [Act.put, pu1, pu2, pu3])
   refine wpAnyH_ready (rs := [2]) (by kernel_rfl) (by simp) ?_
   refine AllReadyH.cons rfl (fun K hK => ?_) AllReadyH.nil
   go_simp
   refine (allWithinB B b F 20 _ (by unfold maxLen; omega) (RdI.below HF.out (Below.and HB1.out ha))).mono ?_
   rintro e w2 ⟨rfl, hb⟩
   rw [h4]
   refine hK.out _ _ (Below.and ha hb) (fun ha2 => ?_)
   clear hK K
   (try simp only [Act.put, pu1, pu2, pu3])
   refine tkI 3 22 (v := ?_) rfl rfl ?_ ?_
   rotate_left
   · intro w1 hSw; obtain ⟨hcS, hfS⟩ := bcell hSw; go_simp; (try with_reducible rfl)
   (try simp only [Act.put, pu1, pu2, pu3])
   refine tkD 4 23 (v := undef) rfl rfl (Or.inr ⟨by rfl, rfl⟩) (by assumption) ?_
   (try simp only [Act.put, pu1, pu2, pu3])
   refine tkD 5 24 (v := undef) rfl rfl (Or.inr ⟨by rfl, rfl⟩) (by assumption) ?_
   (try simp only [Act.put, pu1, pu2, pu3])
   refine tkD 6 25 (v := undef) rfl rfl (Or.inr ⟨by rfl, rfl⟩) (by assumption) ?_
   (try simp only [Act.put, pu1, pu2, pu3])
   refine tkI 7 26 (v := ?_) rfl rfl ?_ ?_
   rotate_left
   · intro w1 hSw; obtain ⟨hcS, hfS⟩ := bcell hSw; go_simp; (try with_reducible rfl)
   (try simp only [Act.put, pu1, pu2, pu3])
   refine tkI 8 27 (v := ?_) rfl rfl ?_ ?_
   rotate_left
   · intro w1 hSw; obtain ⟨hcS, hfS⟩ := bcell hSw; go_simp; (try with_reducible rfl)
   (try simp only [Act.put, pu1, pu2, pu3])
   refine tkD 9 28 (v := undef) rfl rfl (Or.inr ⟨by rfl, rfl⟩) (by assumption) ?_
   (try simp only [Act.put, pu1, pu2, pu3])
   refine tkD 10 29 (v := undef) rfl rfl (Or.inr ⟨by rfl, rfl⟩) (by assumption) ?_
   (try simp only [Act.put, pu1, pu2, pu3])
   refine tkD 11 30 (v := undef) rfl rfl (Or.inr ⟨by rfl, rfl⟩) (by assumption) ?_
   (try simp only [Act.put, pu1, pu2, pu3])
   refine tkD 12 31 (v := undef) rfl rfl (Or.inr ⟨by rfl, rfl⟩) (by assumption) ?_
   (try simp only [Act.put, pu1, pu2, pu3])
   refine tkD 13 32 (v := undef) rfl rfl (Or.inr ⟨by rfl, rfl⟩) (by assumption) ?_
   (try simp only [Act.put, pu1, pu2, pu3])
   refine tkD 14 33 (v := undef) rfl rfl (Or.inr ⟨by rfl, rfl⟩) (by assumption) ?_
   (try simp only [Act.put, pu1, pu2, pu3])
   refine tkD 15 34 (v := undef) rfl rfl (Or.inr ⟨by rfl, rfl⟩) (by assumption) ?_
   (try simp only [Act.put, pu1, pu2, pu3])
   refine tkD 16 35 (v := undef) rfl rfl (Or.inr ⟨by rfl, rfl⟩) (by assumption) ?_
   (try simp only [Act.put, pu1, pu2, pu3])
   refine tkI 17 36 (v := ?_) rfl rfl ?_ ?_
   rotate_left
   · intro w1 hSw; obtain ⟨hcS, hfS⟩ := bcell hSw; go_simp; (try with_reducible rfl)
   (try simp only [Act.put, pu1, pu2, pu3])
   refine tkI 18 2 (v := ?_) rfl rfl ?_ ?_
   rotate_left
   · intro w1 hSw; obtain ⟨hcS, hfS⟩ := bcell hSw; go_simp; (try with_reducible rfl)
   (try simp only [Act.put, pu1, pu2, pu3])
   refine wpAnyH_done (by kernel_rfl) ?_ _
   go_wp2
   go_light
   go_ret
   exact ⟨ret_bool (by rw [gokB, h4]; simp), Below.and (Below.and Z0.out HB1.out) ha2⟩
 have GF := Lib.hid (fun i hi => allB_at h4 i hi)
 rcases h5 : allB L 30 with _ | _
 · go_wp2_with (fail)
   refine wp_region_held_drew (S := fun w1 => Below wz.heap.size wz w1) (by kernel_rfl) ((Below.refl _ _).drew) (fun hb2 => ?_)
   refine tkI 0 19 (v := ?_) rfl rfl ?_ ?_
   rotate_left
   · intro w1 hSw; obtain ⟨hcS, hfS⟩ := bcell hSw; go_simp; (try with_reducible rfl)
   (try simp only [Act.put, pu1, pu2, pu3])
   refine tkI 1 20 (v := ?_) rfl rfl ?_ ?_
   rotate_left
   · intro w1 hSw; obtain ⟨hcS, hfS⟩ := bcell hSw; go_simp; (try with_reducible rfl)
   (try simp only [Act.put, pu1, pu2, pu3])
   refine wpAnyH_ready (rs := [2]) (by kernel_rfl) (by simp) ?_
   refine AllReadyH.cons rfl (fun K hK => ?_) AllReadyH.nil
   go_simp
   refine (allWithinB B b F 20 _ (by unfold maxLen; omega) (RdI.below HF.out (Below.and HB1.out hb2))).mono ?_
   rintro e w2 ⟨rfl, hb⟩
   rw [h4]
   refine hK.out _ _ (Below.and hb2 hb) (fun hb22 => ?_)
   clear hK K
   (try simp only [Act.put, pu1, pu2, pu3])
   refine tkI 3 22 (v := ?_) rfl rfl ?_ ?_
   rotate_left
   · intro w1 hSw; obtain ⟨hcS, hfS⟩ := bcell hSw; go_simp; (try with_reducible rfl)
   (try simp only [Act.put, pu1, pu2, pu3])
   refine tkI 4 23 (v := ?_) rfl rfl ?_ ?_
   rotate_left
   · intro w1 hSw; obtain ⟨hcS, hfS⟩ := bcell hSw; go_simp; (try with_reducible rfl)
   (try simp only [Act.put, pu1, pu2, pu3])
   refine tkI 5 24 (v := ?_) rfl rfl ?_ ?_
   rotate_left
   · intro w1 hSw; obtain ⟨hcS, hfS⟩ := bcell hSw; go_simp; (try with_reducible rfl)
   (try simp only [Act.put, pu1, pu2, pu3])
   refine wpAnyH_ready (rs := [6]) (by kernel_rfl) (by simp) ?_
   refine AllReadyH.cons rfl (fun K hK => ?_) AllReadyH.nil
   go_simp
   refine (allWithinB C c L 30 _ (by unfold maxLen; omega) (RdI.below (HL.out H2.out) (Below.and HB1.out hb22))).mono ?_
   rintro e w2 ⟨rfl, hb⟩
   rw [h5]
   refine hK.out _ _ (Below.and hb22 hb) (fun hb23 => ?_)
   clear hK K
   (try simp only [Act.put, pu1, pu2, pu3])
   refine tkI 7 26 (v := ?_) rfl rfl ?_ ?_
   rotate_left
   · intro w1 hSw; obtain ⟨hcS, hfS⟩ := bcell hSw; go_simp; (try with_reducible rfl)
   (try simp only [Act.put, pu1, pu2, pu3])
   refine tkI 8 27 (v := ?_) rfl rfl ?_ ?_
   rotate_left
   · intro w1 hSw; obtain ⟨hcS, hfS⟩ := bcell hSw; go_simp; (try with_reducible rfl)
   (try simp only [Act.put, pu1, pu2, pu3])
   refine tkD 9 28 (v := undef) rfl rfl (Or.inr ⟨by rfl, rfl⟩) (by assumption) ?_
   (try simp only [Act.put, pu1, pu2, pu3])
   refine tkD 10 29 (v := undef) rfl rfl (Or.inr ⟨by rfl, rfl⟩) (by assumption) ?_
   (try simp only [Act.put, pu1, pu2, pu3])
   refine tkD 11 30 (v := undef) rfl rfl (Or.inr ⟨by rfl, rfl⟩) (by assumption) ?_
   (try simp only [Act.put, pu1, pu2, pu3])
   refine tkD 12 31 (v := undef) rfl rfl (Or.inr ⟨by rfl, rfl⟩) (by assumption) ?_
   (try simp only [Act.put, pu1, pu2, pu3])
   refine tkD 13 32 (v := undef) rfl rfl (Or.inr ⟨by rfl, rfl⟩) (by assumption) ?_
   (try simp only [Act.put, pu1, pu2, pu3])
   refine tkD 14 33 (v := undef) rfl rfl (Or.inr ⟨by rfl, rfl⟩) (by assumption) ?_
   (try simp only [Act.put, pu1, pu2, pu3])
   refine tkD 15 34 (v := undef) rfl rfl (Or.inr ⟨by rfl, rfl⟩) (by assumption) ?_
   (try simp only [Act.put, pu1, pu2, pu3])
   refine tkD 16 35 (v := undef) rfl rfl (Or.inr ⟨by rfl, rfl⟩) (by assumption) ?_
   (try simp only [Act.put, pu1, pu2, pu3])
   refine tkI 17 36 (v := ?_) rfl rfl ?_ ?_
   rotate_left
   · intro w1 hSw; obtain ⟨hcS, hfS⟩ := bcell hSw; go_simp; (try with_reducible rfl)
   (try simp only [Act.put, pu1, pu2, pu3])
   refine tkI 18 2 (v := ?_) rfl rfl ?_ ?_
   rotate_left
   · intro w1 hSw; obtain ⟨hcS, hfS⟩ := bcell hSw; go_simp; (try with_reducible rfl)
   (try simp only [Act.put, pu1, pu2, pu3])
   refine wpAnyH_done (by kernel_rfl) ?_ _
   go_wp2
   go_light
   go_ret
   exact ⟨ret_bool (by rw [gokB, h5]; simp), Below.and (Below.and Z0.out HB1.out) hb23⟩
 have HV := Lib.hid (show gokB E F L = decide (F.sum + goldE E = 20) by rw [gokB, h3, h4, h5, decide_eq_true H1.out, decide_eq_true H2.out]; simp)
 obtain ⟨ge0, ge1⟩ := gold_bd E GE.out
 obtain ⟨fs0, fs1⟩ := sum_bd F GF.out
 obtain ⟨ge, hge⟩ : ∃ x, goldE E = x := ⟨_, rfl⟩
 obtain ⟨fs, hfs⟩ : ∃ x, F.sum = x := ⟨_, rfl⟩
 rw [hge] at ge0 ge1 HV
 rw [hfs] at fs0 fs1 HV
 have ge2 : ge ≤ 20971520 := by omega
 have fs2 : fs ≤ 20971520 := by omega
 clear ge1 fs1
 have hwr : IntKind.i64.wrap (ge + fs) = ge + fs := IntWalk.i64_in _ (by omega)
 go_wp2_with (fail)
 refine wp_region_held_drew (S := fun w1 => Below wz.heap.size wz w1) (by kernel_rfl) ((Below.refl _ _).drew) (fun hc => ?_)
 refine tkI 0 19 (v := ?_) rfl rfl ?_ ?_
 rotate_left
 · intro w1 hSw; obtain ⟨hcS, hfS⟩ := bcell hSw; go_simp; (try with_reducible rfl)
 (try simp only [Act.put, pu1, pu2, pu3])
 refine tkI 1 20 (v := ?_) rfl rfl ?_ ?_
 rotate_left
 · intro w1 hSw; obtain ⟨hcS, hfS⟩ := bcell hSw; go_simp; (try with_reducible rfl)
 (try simp only [Act.put, pu1, pu2, pu3])
 refine wpAnyH_ready (rs := [2]) (by kernel_rfl) (by simp) ?_
 refine AllReadyH.cons rfl (fun K hK => ?_) AllReadyH.nil
 go_simp
 refine (allWithinB B b F 20 _ (by unfold maxLen; omega) (RdI.below HF.out (Below.and HB1.out hc))).mono ?_
 rintro e w2 ⟨rfl, hb⟩
 rw [h4]
 refine hK.out _ _ (Below.and hc hb) (fun hc2 => ?_)
 clear hK K
 (try simp only [Act.put, pu1, pu2, pu3])
 refine tkI 3 22 (v := ?_) rfl rfl ?_ ?_
 rotate_left
 · intro w1 hSw; obtain ⟨hcS, hfS⟩ := bcell hSw; go_simp; (try with_reducible rfl)
 (try simp only [Act.put, pu1, pu2, pu3])
 refine tkI 4 23 (v := ?_) rfl rfl ?_ ?_
 rotate_left
 · intro w1 hSw; obtain ⟨hcS, hfS⟩ := bcell hSw; go_simp; (try with_reducible rfl)
 (try simp only [Act.put, pu1, pu2, pu3])
 refine tkI 5 24 (v := ?_) rfl rfl ?_ ?_
 rotate_left
 · intro w1 hSw; obtain ⟨hcS, hfS⟩ := bcell hSw; go_simp; (try with_reducible rfl)
 (try simp only [Act.put, pu1, pu2, pu3])
 refine wpAnyH_ready (rs := [6]) (by kernel_rfl) (by simp) ?_
 refine AllReadyH.cons rfl (fun K hK => ?_) AllReadyH.nil
 go_simp
 refine (allWithinB C c L 30 _ (by unfold maxLen; omega) (RdI.below (HL.out H2.out) (Below.and HB1.out hc2))).mono ?_
 rintro e w2 ⟨rfl, hb⟩
 rw [h5]
 refine hK.out _ _ (Below.and hc2 hb) (fun hc3 => ?_)
 clear hK K
 (try simp only [Act.put, pu1, pu2, pu3])
 refine tkI 7 26 (v := ?_) rfl rfl ?_ ?_
 rotate_left
 · intro w1 hSw; obtain ⟨hcS, hfS⟩ := bcell hSw; go_simp; (try with_reducible rfl)
 (try simp only [Act.put, pu1, pu2, pu3])
 refine tkI 8 27 (v := ?_) rfl rfl ?_ ?_
 rotate_left
 · intro w1 hSw; obtain ⟨hcS, hfS⟩ := bcell hSw; go_simp; (try with_reducible rfl)
 (try simp only [Act.put, pu1, pu2, pu3])
 refine tkI 9 28 (v := ?_) rfl rfl ?_ ?_
 rotate_left
 · intro w1 hSw; obtain ⟨hcS, hfS⟩ := bcell hSw; go_simp; (try with_reducible rfl)
 (try simp only [Act.put, pu1, pu2, pu3])
 refine tkI 10 29 (v := ?_) rfl rfl ?_ ?_
 rotate_left
 · intro w1 hSw; obtain ⟨hcS, hfS⟩ := bcell hSw; go_simp; (try with_reducible rfl)
 (try simp only [Act.put, pu1, pu2, pu3])
 refine tkI 12 31 (v := ?_) rfl rfl ?_ ?_
 rotate_left
 · intro w1 hSw; obtain ⟨hcS, hfS⟩ := bcell hSw; go_simp; (try with_reducible rfl)
 (try simp only [Act.put, pu1, pu2, pu3])
 refine tkI 13 32 (v := ?_) rfl rfl ?_ ?_
 rotate_left
 · intro w1 hSw; obtain ⟨hcS, hfS⟩ := bcell hSw; go_simp; (try with_reducible rfl)
 (try simp only [Act.put, pu1, pu2, pu3])
 refine wpAnyH_ready (rs := [11]) (by kernel_rfl) (by simp) ?_
 refine AllReadyH.cons rfl (fun K hK => ?_) AllReadyH.nil
 go_simp
 refine (goldOfEnts A a E _ hE GE.out (RdF.below HE.out (Below.and HB1.out hc3))).mono ?_
 rintro e w2 ⟨rfl, hb⟩
 rw [hge]
 refine hK.out _ _ (Below.and hc3 hb) (fun hc4 => ?_)
 clear hK K
 (try simp only [Act.put, pu1, pu2, pu3])
 refine wpAnyH_ready (rs := [14]) (by kernel_rfl) (by simp) ?_
 refine AllReadyH.cons rfl (fun K hK => ?_) AllReadyH.nil
 go_simp
 refine (goldOfFloor B b F _ hF GF.out (RdI.below HF.out (Below.and HB1.out hc4))).mono ?_
 rintro e w2 ⟨rfl, hb⟩
 rw [hfs]
 refine hK.out _ _ (Below.and hc4 hb) (fun hc5 => ?_)
 clear hK K
 (try simp only [Act.put, pu1, pu2, pu3])
 refine tkI 15 34 (v := ?_) rfl rfl ?_ ?_
 rotate_left
 · intro w1 hSw; obtain ⟨hcS, hfS⟩ := bcell hSw; go_simp; (try with_reducible rfl)
 (try simp only [Act.put, pu1, pu2, pu3])
 refine tkI 16 35 (v := ?_) rfl rfl ?_ ?_
 rotate_left
 · intro w1 hSw; obtain ⟨hcS, hfS⟩ := bcell hSw; go_simp; (try with_reducible rfl)
 (try simp only [Act.put, pu1, pu2, pu3])
 refine tkI 17 36 (v := ?_) rfl rfl ?_ ?_
 rotate_left
 · intro w1 hSw; obtain ⟨hcS, hfS⟩ := bcell hSw; go_simp; (try with_reducible rfl)
 (try simp only [Act.put, pu1, pu2, pu3])
 refine tkI 18 2 (v := ?_) rfl rfl ?_ ?_
 rotate_left
 · intro w1 hSw; obtain ⟨hcS, hfS⟩ := bcell hSw; go_simp; (try with_reducible rfl)
 (try simp only [Act.put, pu1, pu2, pu3])
 refine wpAnyH_done (by kernel_rfl) ?_ _
 go_wp2
 go_light
 go_ret
 exact ⟨ret_bool (by rw [HV.out, Int.add_comm]; rfl), Below.and (Below.and Z0.out HB1.out) hc5⟩
theorem gameOk (A : Option Addr) (a : Nat) (B : Option Addr) (b : Nat) (C : Option Addr) (c : Nat) (E : List Fig) (F L : List Int) (w : World) (hE : E.length ≤ 1048576) (hF : F.length ≤ 1048576) (hL : L.length ≤ 1048576)
 (rE : RdF w A E) (rF : RdI w B F) (rL : RdI w C L) :
 Calls Try.prog 68 #[gameV A E.length a B F.length b C L.length c] w fun e w' => e = .returned (.bool (gokB E F L)) ∧ Below w.heap.size w w' :=
 gameOkJ A a B b C c E F L w hE hF hL rE rF (fun _ => rL)
end Go.Proofs.Ytameldhdegcpoaa
namespace Go.Proofs.Ytameldhdegcpoaa
open Go.ChangeShapes Go.WideShapes Go.ChangeAt Go.RowKit
set_option linter.unusedVariables false
structure Marked (w : World) (A B C : Option Addr) (n m l : Nat) : Prop where
 ents : RdM w A (n * 5) 1
 floor : RdM w B m (1 + 5 * (n : Int))
 last : RdM w C l (1 + 5 * (n : Int) + (m : Int))
theorem Marked.below {w w' : World} {A B C : Option Addr} {n m l : Nat} (h : Marked w A B C n m l) (hb : Below w.heap.size w w') : Marked w' A B C n m l := ⟨h.ents.below hb, h.floor.below hb, h.last.below hb⟩
theorem mark_game {w : World} {lo hi : Nat} {A B C : Option Addr} {a b c : Nat} {E : List Fig} {F L : List Int} (h : GameAt w lo hi A a B b C c E F L)
 (n m l : Nat) (hn : E.length = n) (hm : F.length = m) (hl : L.length = l) (v : Int) (hv : v = 1 + 5 * (n : Int) + (m : Int) + (l : Int)) (hE : n ≤ 1048576) (hF : m ≤ 1048576) (hL : l ≤ 1048576) (hhi : hi ≤ w.heap.size) :
 Calls Try.prog 18 #[gameV A n a B m b C l c, .int .i64 1] w fun e w' => e = .returned (.int .i64 v) ∧ Keeps lo hi w w' ∧ Marked w' A B C n m l := by
 subst hn hm hl hv
 exact (markGame 1 h (by omega) (by omega) hE hF hL hhi).mono fun e w' ⟨he, hk, h1, h2, h3⟩ => ⟨he, hk, h1, h2, h3⟩
theorem held_game {w : World} {A B C : Option Addr} {a b c : Nat} (n m l : Nat) (h : Marked w A B C n m l) (v : Int) (hv : v = 1 + 5 * (n : Int) + (m : Int) + (l : Int)) (hE : n ≤ 1048576) (hF : m ≤ 1048576) (hL : l ≤ 1048576) :
 Calls Try.prog 19 #[gameV A n a B m b C l c, .int .i64 1] w fun e w' => e = .returned (.int .i64 v) ∧ Below w.heap.size w w' := by
 subst hv
 exact heldGame 1 (by omega) (by omega) hE hF hL h.ents h.floor h.last
end Go.Proofs.Ytameldhdegcpoaa
