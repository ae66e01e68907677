/- The laws' own helpers over requests and claims. -/
import Derived.Test.YtephmhgjhjheaaaTk
import Derived.Test.YtephmhgjhjheaaaMem3
namespace Go.Proofs.Ytephmhgjhjheaaa
open Go.ChangeShapes Go.WideShapes Go.ChangeAt Go.RowKit
set_option linter.unusedVariables false

theorem toRq (r : Rq) (w : World) : Calls Try.prog 48 #[r.val] w fun e w' => e = .returned r.val ∧ Below w.heap.size w w' := toReq r.c r.n r.o r.x r.y w

theorem eqReq (a b : Rq) (w : World) :
    Calls Try.prog 130 #[a.val, b.val] w fun e w' => e = .returned (.bool (decide (a = b))) ∧ Below w.heap.size w w' := by
  obtain ⟨c, n, o, x, y⟩ := a
  obtain ⟨c', n', o', x', y'⟩ := b
  go_enter Try.func130, Try.ntmps130
  go_wp2
  all_goals go_light
  all_goals go_ret
  all_goals refine ⟨ret_bool ?_, ((Below.refl _ _).alloc (Nat.le_refl _) _).alloc (by simp) _⟩
  all_goals (simp_all)

theorem eqClaim (a b : Cl) (w : World) :
    Calls Try.prog 178 #[a.val, b.val] w fun e w' => e = .returned (.bool (decide (a = b))) ∧ Below w.heap.size w w' := by
  obtain ⟨s, v, r⟩ := a
  obtain ⟨s', v', r'⟩ := b
  have z0 := Lib.hid (below_alloc2 w (.cells #[.int .i64 s, .int .i64 v, .int .i64 r.c, .int .i64 r.n, .int .i64 r.o, .int .i64 r.x, .int .i64 r.y] 60) (.cells #[.int .i64 s', .int .i64 v', .int .i64 r'.c, .int .i64 r'.n, .int .i64 r'.o, .int .i64 r'.x, .int .i64 r'.y] 60))
  rcases h1 : (s != s') with _ | _
  · rcases h2 : (v != v') with _ | _
    · go_enter Try.func178, Try.ntmps178
      go_wp2_with (fail)
      refine (eqReq r r' _).mono ?_
      rintro e w1 ⟨rfl, hb⟩
      rcases he : decide (r = r') with _ | _
      all_goals go_wp2
      all_goals go_light
      all_goals go_ret
      all_goals exact ⟨ret_bool (by simp_all), Below.and z0.out hb⟩
    · go_enter Try.func178, Try.ntmps178
      go_wp2
      go_light
      go_ret
      exact ⟨ret_bool (by simp_all), z0.out⟩
  · go_enter Try.func178, Try.ntmps178
    go_wp2
    go_light
    go_ret
    exact ⟨ret_bool (by simp_all), z0.out⟩

set_option maxRecDepth 100000 in
theorem eqReqS (A B : Option Addr) (c d : Nat) (la lb : List Rq) (w : World) (hA : la.length ≤ maxLen) (ha : Rd 5 Rq.cells w A la) (hb : Rd 5 Rq.cells w B lb) :
    Calls Try.prog 54 #[.slice A la.length c, .slice B lb.length d] w fun e w' => e = .returned (.bool (decide (la = lb))) ∧ Below w.heap.size w w' := by
  unfold maxLen at hA
  have HA := Lib.hid ha
  have HB := Lib.hid hb
  clear ha hb
  by_cases hl : la.length = lb.length
  · have hl1 : ((la.length : Int) != (lb.length : Int)) = false := by simp [hl]
    have HL := Lib.hid hl
    clear hl
    go_enter Try.func54, Try.ntmps54
    go_wp2
    go_loopw [5] (fun i wr => ∃ k : Nat, k ≤ la.length ∧ i = .int .i64 k ∧ Hid (Below w.heap.size w wr) ∧ Hid (la.take k = lb.take k)) (fun i _ => la.length - (intOf i).toNat)
    case atStart => exact ⟨0, Nat.zero_le _, rfl, Below.refl _ _, by simp [Hid]⟩
    case round =>
      obtain ⟨k, hk, rfl, hbw, ht⟩ := hrel
      by_cases hlt : k < la.length
      · have hltb : k < lb.length := by have := HL.out; omega
        obtain ⟨g, o, rfl, ca⟩ := Rd.below HA.out hbw.out k hlt
        obtain ⟨g', o', rfl, cb⟩ := Rd.below HB.out hbw.out k hltb
        obtain ⟨x, hx⟩ : ∃ x, x = la[k] := ⟨_, rfl⟩
        obtain ⟨y, hy⟩ : ∃ y, y = lb[k] := ⟨_, rfl⟩
        rw [← hx] at ca
        rw [← hy] at cb
        have HX := Lib.hid hx
        have HY := Lib.hid hy
        clear hx hy
        have a0 : wr.cell? ⟨g, o + k * 5, none⟩ = some (.int .i64 x.c) := ca 0 _ rfl
        have a1 : wr.cell? ⟨g, o + k * 5 + 1, none⟩ = some (.int .i64 x.n) := ca 1 _ rfl
        have a2 : wr.cell? ⟨g, o + k * 5 + 2, none⟩ = some (.int .i64 x.o) := ca 2 _ rfl
        have a3 : wr.cell? ⟨g, o + k * 5 + 3, none⟩ = some (.int .i64 x.x) := ca 3 _ rfl
        have a4 : wr.cell? ⟨g, o + k * 5 + 4, none⟩ = some (.int .i64 x.y) := ca 4 _ rfl
        have b0 : wr.cell? ⟨g', o' + k * 5, none⟩ = some (.int .i64 y.c) := cb 0 _ rfl
        have b1 : wr.cell? ⟨g', o' + k * 5 + 1, none⟩ = some (.int .i64 y.n) := cb 1 _ rfl
        have b2 : wr.cell? ⟨g', o' + k * 5 + 2, none⟩ = some (.int .i64 y.o) := cb 2 _ rfl
        have b3 : wr.cell? ⟨g', o' + k * 5 + 3, none⟩ = some (.int .i64 y.x) := cb 3 _ rfl
        have b4 : wr.cell? ⟨g', o' + k * 5 + 4, none⟩ = some (.int .i64 y.y) := cb 4 _ rfl
        clear ca cb
        have i0 : (0 : Int) ≤ (k : Int) := by omega
        have i1 : (k : Int) < (la.length : Int) := by omega
        have i2 : (k : Int) < (lb.length : Int) := by omega
        by_cases hxy : x = y
        · subst hxy
          go_wp2_with (fail)
          refine wp_region_still_tail 8 (by kernel_rfl) (by kernel_rfl) ?_
          change wpStill _ _ (World.drew _) (fun a' => wpList _ _ _ _ a' (World.drew _)) _ _
          simp only [List.take_succ_cons, List.take_zero, List.drop_succ_cons, List.drop_zero]
          repeat still_step
          refine wpStill_nil ?_
          go_wp2_with (fail)
          refine (eqReq x x _).mono ?_
          rintro e w1 ⟨rfl, h1⟩
          rw [decide_eq_true rfl]
          go_wp2
          go_roundw
          case rel => exact ⟨k + 1, by omega, by go_num, Below.and hbw.out (Below.and (Below.refl _ _).drew h1), take_step hlt hltb ht.out (by rw [← HX.out, ← HY.out])⟩
          case measure => simp [intOf]; omega
        · have hd := Lib.hid hxy
          clear hxy
          go_wp2_with (fail)
          refine wp_region_still_tail 8 (by kernel_rfl) (by kernel_rfl) ?_
          change wpStill _ _ (World.drew _) (fun a' => wpList _ _ _ _ a' (World.drew _)) _ _
          simp only [List.take_succ_cons, List.take_zero, List.drop_succ_cons, List.drop_zero]
          repeat still_step
          refine wpStill_nil ?_
          go_wp2_with (fail)
          refine (eqReq x y _).mono ?_
          rintro e w1 ⟨rfl, h1⟩
          rw [decide_eq_false hd.out]
          go_wp2
          go_ret
          exact ⟨ret_bool (decide_eq_false (ne_of_at hlt hltb (by rw [← HX.out, ← HY.out]; exact hd.out))).symm, Below.and hbw.out (Below.and (Below.refl _ _).drew h1)⟩
      · have hz : k = la.length := by omega
        have HZ := Lib.hid hz
        clear hz
        go_wp2
        go_ret
        have h1 := ht.out
        rw [HZ.out, List.take_length, HL.out, List.take_length] at h1
        exact ⟨ret_bool (decide_eq_true h1).symm, hbw.out⟩
  · have hl1 : ((la.length : Int) != (lb.length : Int)) = true := by simp; omega
    have HL := Lib.hid hl
    clear hl
    go_enter Try.func54, Try.ntmps54
    go_wp2
    go_ret
    exact ⟨ret_bool (decide_eq_false (fun e => HL.out (by rw [e]))).symm, Below.refl _ _⟩

set_option maxRecDepth 100000 in
theorem eqClaimS (A B : Option Addr) (c d : Nat) (la lb : List Cl) (w : World) (hA : la.length ≤ maxLen) (ha : Rd 7 Cl.cells w A la) (hb : Rd 7 Cl.cells w B lb) :
    Calls Try.prog 133 #[.slice A la.length c, .slice B lb.length d] w fun e w' => e = .returned (.bool (decide (la = lb))) ∧ Below w.heap.size w w' := by
  unfold maxLen at hA
  have HA := Lib.hid ha
  have HB := Lib.hid hb
  clear ha hb
  by_cases hl : la.length = lb.length
  · have hl1 : ((la.length : Int) != (lb.length : Int)) = false := by simp [hl]
    have HL := Lib.hid hl
    clear hl
    go_enter Try.func133, Try.ntmps133
    go_wp2
    go_loopw [5] (fun i wr => ∃ k : Nat, k ≤ la.length ∧ i = .int .i64 k ∧ Hid (Below w.heap.size w wr) ∧ Hid (la.take k = lb.take k)) (fun i _ => la.length - (intOf i).toNat)
    case atStart => exact ⟨0, Nat.zero_le _, rfl, Below.refl _ _, by simp [Hid]⟩
    case round =>
      obtain ⟨k, hk, rfl, hbw, ht⟩ := hrel
      by_cases hlt : k < la.length
      · have hltb : k < lb.length := by have := HL.out; omega
        obtain ⟨g, o, rfl, ca⟩ := Rd.below HA.out hbw.out k hlt
        obtain ⟨g', o', rfl, cb⟩ := Rd.below HB.out hbw.out k hltb
        obtain ⟨x, hx⟩ : ∃ x, x = la[k] := ⟨_, rfl⟩
        obtain ⟨y, hy⟩ : ∃ y, y = lb[k] := ⟨_, rfl⟩
        rw [← hx] at ca
        rw [← hy] at cb
        have HX := Lib.hid hx
        have HY := Lib.hid hy
        clear hx hy
        have a0 : wr.cell? ⟨g, o + k * 7, none⟩ = some (.int .i64 x.s) := ca 0 _ rfl
        have a1 : wr.cell? ⟨g, o + k * 7 + 1, none⟩ = some (.int .i64 x.v) := ca 1 _ rfl
        have a2 : wr.cell? ⟨g, o + k * 7 + 2, none⟩ = some (.int .i64 x.r.c) := ca 2 _ rfl
        have a3 : wr.cell? ⟨g, o + k * 7 + 3, none⟩ = some (.int .i64 x.r.n) := ca 3 _ rfl
        have a4 : wr.cell? ⟨g, o + k * 7 + 4, none⟩ = some (.int .i64 x.r.o) := ca 4 _ rfl
        have a5 : wr.cell? ⟨g, o + k * 7 + 5, none⟩ = some (.int .i64 x.r.x) := ca 5 _ rfl
        have a6 : wr.cell? ⟨g, o + k * 7 + 6, none⟩ = some (.int .i64 x.r.y) := ca 6 _ rfl
        have b0 : wr.cell? ⟨g', o' + k * 7, none⟩ = some (.int .i64 y.s) := cb 0 _ rfl
        have b1 : wr.cell? ⟨g', o' + k * 7 + 1, none⟩ = some (.int .i64 y.v) := cb 1 _ rfl
        have b2 : wr.cell? ⟨g', o' + k * 7 + 2, none⟩ = some (.int .i64 y.r.c) := cb 2 _ rfl
        have b3 : wr.cell? ⟨g', o' + k * 7 + 3, none⟩ = some (.int .i64 y.r.n) := cb 3 _ rfl
        have b4 : wr.cell? ⟨g', o' + k * 7 + 4, none⟩ = some (.int .i64 y.r.o) := cb 4 _ rfl
        have b5 : wr.cell? ⟨g', o' + k * 7 + 5, none⟩ = some (.int .i64 y.r.x) := cb 5 _ rfl
        have b6 : wr.cell? ⟨g', o' + k * 7 + 6, none⟩ = some (.int .i64 y.r.y) := cb 6 _ rfl
        clear ca cb
        have i0 : (0 : Int) ≤ (k : Int) := by omega
        have i1 : (k : Int) < (la.length : Int) := by omega
        have i2 : (k : Int) < (lb.length : Int) := by omega
        by_cases hxy : x = y
        · subst hxy
          go_wp2_with (fail)
          refine wp_region_still_tail 8 (by kernel_rfl) (by kernel_rfl) ?_
          change wpStill _ _ (World.drew _) (fun a' => wpList _ _ _ _ a' (World.drew _)) _ _
          simp only [List.take_succ_cons, List.take_zero, List.drop_succ_cons, List.drop_zero]
          repeat still_step
          refine wpStill_nil ?_
          go_wp2_with (fail)
          refine (eqClaim x x _).mono ?_
          rintro e w1 ⟨rfl, h1⟩
          rw [decide_eq_true rfl]
          go_wp2
          go_roundw
          case rel => exact ⟨k + 1, by omega, by go_num, Below.and hbw.out (Below.and (Below.refl _ _).drew h1), take_step hlt hltb ht.out (by rw [← HX.out, ← HY.out])⟩
          case measure => simp [intOf]; omega
        · have hd := Lib.hid hxy
          clear hxy
          go_wp2_with (fail)
          refine wp_region_still_tail 8 (by kernel_rfl) (by kernel_rfl) ?_
          change wpStill _ _ (World.drew _) (fun a' => wpList _ _ _ _ a' (World.drew _)) _ _
          simp only [List.take_succ_cons, List.take_zero, List.drop_succ_cons, List.drop_zero]
          repeat still_step
          refine wpStill_nil ?_
          go_wp2_with (fail)
          refine (eqClaim x y _).mono ?_
          rintro e w1 ⟨rfl, h1⟩
          rw [decide_eq_false hd.out]
          go_wp2
          go_ret
          exact ⟨ret_bool (decide_eq_false (ne_of_at hlt hltb (by rw [← HX.out, ← HY.out]; exact hd.out))).symm, Below.and hbw.out (Below.and (Below.refl _ _).drew h1)⟩
      · have hz : k = la.length := by omega
        have HZ := Lib.hid hz
        clear hz
        go_wp2
        go_ret
        have h1 := ht.out
        rw [HZ.out, List.take_length, HL.out, List.take_length] at h1
        exact ⟨ret_bool (decide_eq_true h1).symm, hbw.out⟩
  · have hl1 : ((la.length : Int) != (lb.length : Int)) = true := by simp; omega
    have HL := Lib.hid hl
    clear hl
    go_enter Try.func133, Try.ntmps133
    go_wp2
    go_ret
    exact ⟨ret_bool (decide_eq_false (fun e => HL.out (by rw [e]))).symm, Below.refl _ _⟩

theorem szReqS (A : Option Addr) (n c : Nat) (left : Int) (w : World) (hn : n ≤ maxLen) (h0 : 0 ≤ left) (h1 : left ≤ 1048576) :
    Calls Try.prog 52 #[.slice A n c, .int .i64 left] w fun e w' => e = .returned (.int .i64 (if left - n < 0 then -1 else left - n)) ∧ w = w' := by
  unfold maxLen at hn
  go_enter Try.func52, Try.ntmps52
  by_cases h : left - (n : Int) < 0
  all_goals go_wp2
  all_goals go_ret
  all_goals first | exact ⟨rfl, rfl⟩ | exact ⟨ret_int (if_pos h).symm, rfl⟩ | exact ⟨ret_int (if_neg h).symm, rfl⟩

theorem szClaimS (A : Option Addr) (n c : Nat) (left : Int) (w : World) (hn : n ≤ maxLen) (h0 : 0 ≤ left) (h1 : left ≤ 1048576) :
    Calls Try.prog 131 #[.slice A n c, .int .i64 left] w fun e w' => e = .returned (.int .i64 (if left - n < 0 then -1 else left - n)) ∧ w = w' := by
  unfold maxLen at hn
  go_enter Try.func131, Try.ntmps131
  by_cases h : left - (n : Int) < 0
  all_goals go_wp2
  all_goals go_ret
  all_goals first | exact ⟨rfl, rfl⟩ | exact ⟨ret_int (if_pos h).symm, rfl⟩ | exact ⟨ret_int (if_neg h).symm, rfl⟩

end Go.Proofs.Ytephmhgjhjheaaa
