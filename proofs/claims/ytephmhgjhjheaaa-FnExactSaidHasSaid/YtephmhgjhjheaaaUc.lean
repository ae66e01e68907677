/- The laws' own helpers over votes. -/
import Derived.Test.YtephmhgjhjheaaaUb
namespace Go.Proofs.Ytephmhgjhjheaaa
open Go.ChangeShapes Go.WideShapes Go.ChangeAt Go.RowKit
set_option linter.unusedVariables false

theorem eqVote (p q : VtP) (w : World) (hp : p.rd w) (hq : q.rd w) :
    Calls Try.prog 139 #[p.val, q.val] w fun e w' => e = .returned (.bool (decide (p.vt = q.vt))) ∧ Below w.heap.size w w' := by
  obtain ⟨g, A, c, l⟩ := p
  obtain ⟨g', A', c', l'⟩ := q
  have z0 := Lib.hid (below_alloc2 w (.cells #[.int .i64 g, .slice A l.length c] 58) (.cells #[.int .i64 g', .slice A' l'.length c'] 58))
  have H1 := Lib.hid (hp.2.below z0.out)
  have H2 := Lib.hid (hq.2.below z0.out)
  have m1 : l.length ≤ maxLen := hp.1
  clear hp hq
  rcases h1 : (g != g') with _ | _
  · go_enter Try.func139, Try.ntmps139
    go_wp2_with (fail)
    refine (eqClaimS A A' c c' l l' _ m1 H1.out H2.out).mono ?_
    rintro e w1 ⟨rfl, hb⟩
    rcases he : decide (l = l') with _ | _
    all_goals go_wp2
    all_goals go_light
    all_goals go_ret
    all_goals exact ⟨ret_bool (by simp_all [VtP.vt]), Below.and z0.out hb⟩
  · go_enter Try.func139, Try.ntmps139
    go_wp2
    go_light
    go_ret
    exact ⟨ret_bool (by simp_all [VtP.vt]), z0.out⟩

theorem szVote (p : VtP) (left : Int) (w : World) (hn : p.cl.length ≤ maxLen) (h0 : 0 ≤ left) (h1 : left ≤ 1048576) :
    Calls Try.prog 137 #[p.val, .int .i64 left] w fun e w' => e = .returned (.int .i64 (if left - p.cl.length < 0 then -1 else left - p.cl.length)) ∧ Below w.heap.size w w' := by
  obtain ⟨g, A, c, l⟩ := p
  have z0 : Below w.heap.size w (w.alloc (.cells #[.int .i64 g, .slice A l.length c] 150)) := (Below.refl _ _).alloc (Nat.le_refl _) _
  have Z0 := Lib.hid z0
  clear z0
  go_enter Try.func137, Try.ntmps137
  go_wp2_with (fail)
  refine (szClaimS A l.length c left _ hn h0 h1).mono ?_
  rintro e w1 ⟨rfl, rfl⟩
  replace hn : l.length ≤ maxLen := hn
  unfold maxLen at hn
  by_cases h : left - (l.length : Int) < 0
  · rw [if_pos h]
    go_wp2
    go_light
    go_ret
    exact ⟨rfl, Z0.out⟩
  · rw [if_neg h]
    go_wp2
    go_light
    go_ret
    exact ⟨rfl, Z0.out⟩

theorem map_take_step {α β : Type} {f : α → β} {la lb : List α} {k : Nat} (ha : k < la.length) (hb : k < lb.length) (h : (la.map f).take k = (lb.map f).take k) (he : f la[k] = f lb[k]) : (la.map f).take (k + 1) = (lb.map f).take (k + 1) :=
  take_step (by simpa using ha) (by simpa using hb) h (by simpa using he)

theorem map_ne_of_at {α β : Type} {f : α → β} {la lb : List α} {k : Nat} (ha : k < la.length) (hb : k < lb.length) (he : f la[k] ≠ f lb[k]) : la.map f ≠ lb.map f :=
  ne_of_at (by simpa using ha) (by simpa using hb) (k := k) (by simpa using he)

set_option maxRecDepth 100000 in
theorem eqVoteS (A B : Option Addr) (c d : Nat) (la lb : List VtP) (w : World) (hA : la.length ≤ maxLen) (ha : RdV w A la) (hb : RdV w B lb) :
    Calls Try.prog 66 #[.slice A la.length c, .slice B lb.length d] w fun e w' => e = .returned (.bool (decide (la.map VtP.vt = lb.map VtP.vt))) ∧ Below w.heap.size w w' := by
  unfold maxLen at hA
  have HA := Lib.hid ha
  have HB := Lib.hid hb
  clear ha hb
  by_cases hl : la.length = lb.length
  · have hl1 : ((la.length : Int) != (lb.length : Int)) = false := by simp [hl]
    have HL := Lib.hid hl
    clear hl
    go_enter Try.func66, Try.ntmps66
    go_wp2
    go_loopw [5] (fun i wr => ∃ k : Nat, k ≤ la.length ∧ i = .int .i64 k ∧ Hid (Below w.heap.size w wr) ∧ Hid ((la.map VtP.vt).take k = (lb.map VtP.vt).take k)) (fun i _ => la.length - (intOf i).toNat)
    case atStart => exact ⟨0, Nat.zero_le _, rfl, Below.refl _ _, by simp [Hid]⟩
    case round =>
      obtain ⟨k, hk, rfl, hbw, ht⟩ := hrel
      by_cases hlt : k < la.length
      · have hltb : k < lb.length := by have := HL.out; omega
        obtain ⟨g, o, rfl, ca⟩ := Rd.below HA.out.1 hbw.out k hlt
        obtain ⟨g', o', rfl, cb⟩ := Rd.below HB.out.1 hbw.out k hltb
        have rx := (HA.out.2 la[k] (List.getElem_mem hlt)).below hbw.out
        have ry := (HB.out.2 lb[k] (List.getElem_mem hltb)).below hbw.out
        obtain ⟨x, hx⟩ : ∃ x, x = la[k] := ⟨_, rfl⟩
        obtain ⟨y, hy⟩ : ∃ y, y = lb[k] := ⟨_, rfl⟩
        rw [← hx] at ca rx
        rw [← hy] at cb ry
        have HX := Lib.hid hx
        have HY := Lib.hid hy
        have RX := Lib.hid rx
        have RY := Lib.hid ry
        clear hx hy rx ry
        have a0 : wr.cell? ⟨g, o + k * 2, none⟩ = some (.int .i64 x.f) := ca 0 _ rfl
        have a1 : wr.cell? ⟨g, o + k * 2 + 1, none⟩ = some (.slice x.A x.cl.length x.c) := ca 1 _ rfl
        have b0 : wr.cell? ⟨g', o' + k * 2, none⟩ = some (.int .i64 y.f) := cb 0 _ rfl
        have b1 : wr.cell? ⟨g', o' + k * 2 + 1, none⟩ = some (.slice y.A y.cl.length y.c) := cb 1 _ rfl
        clear ca cb
        have i0 : (0 : Int) ≤ (k : Int) := by omega
        have i1 : (k : Int) < (la.length : Int) := by omega
        have i2 : (k : Int) < (lb.length : Int) := by omega
        by_cases hxy : VtP.vt x = VtP.vt y
        · have HE := Lib.hid hxy
          clear hxy
          go_wp2_with (fail)
          refine wp_region_still_tail 8 (by kernel_rfl) (by kernel_rfl) ?_
          change wpStill _ _ (World.drew _) (fun a' => wpList _ _ _ _ a' (World.drew _)) _ _
          simp only [List.take_succ_cons, List.take_zero, List.drop_succ_cons, List.drop_zero]
          repeat still_step
          refine wpStill_nil ?_
          go_wp2_with (fail)
          refine (eqVote x y _ (RX.out.below (Below.refl _ _).drew) (RY.out.below (Below.refl _ _).drew)).mono ?_
          rintro e w1 ⟨rfl, h1⟩
          rw [decide_eq_true HE.out]
          go_wp2
          go_roundw
          case rel => exact ⟨k + 1, by omega, by go_num, Below.and hbw.out (Below.and (Below.refl _ _).drew h1), map_take_step hlt hltb ht.out (by rw [← HX.out, ← HY.out]; exact HE.out)⟩
          case measure => simp [intOf]; omega
        · have HE := Lib.hid hxy
          clear hxy
          go_wp2_with (fail)
          refine wp_region_still_tail 8 (by kernel_rfl) (by kernel_rfl) ?_
          change wpStill _ _ (World.drew _) (fun a' => wpList _ _ _ _ a' (World.drew _)) _ _
          simp only [List.take_succ_cons, List.take_zero, List.drop_succ_cons, List.drop_zero]
          repeat still_step
          refine wpStill_nil ?_
          go_wp2_with (fail)
          refine (eqVote x y _ (RX.out.below (Below.refl _ _).drew) (RY.out.below (Below.refl _ _).drew)).mono ?_
          rintro e w1 ⟨rfl, h1⟩
          rw [decide_eq_false HE.out]
          go_wp2
          go_ret
          exact ⟨ret_bool (decide_eq_false (map_ne_of_at hlt hltb (by rw [← HX.out, ← HY.out]; exact HE.out))).symm, Below.and hbw.out (Below.and (Below.refl _ _).drew h1)⟩
      · have hz : k = la.length := by omega
        have HZ := Lib.hid hz
        clear hz
        go_wp2
        go_ret
        have h1 := ht.out
        rw [List.take_of_length_le (by simp; have := HZ.out; omega), List.take_of_length_le (by simp; have := HZ.out; have := HL.out; omega)] at h1
        exact ⟨ret_bool (decide_eq_true h1).symm, hbw.out⟩
  · have hl1 : ((la.length : Int) != (lb.length : Int)) = true := by simp; omega
    have HL := Lib.hid hl
    clear hl
    go_enter Try.func66, Try.ntmps66
    go_wp2
    go_ret
    exact ⟨ret_bool (decide_eq_false (fun e => HL.out (by have := congrArg List.length e; simpa using this))).symm, Below.refl _ _⟩

end Go.Proofs.Ytephmhgjhjheaaa
