/- Votes held against each other by Go's own EqualFunc. -/
import Derived.Test.YtephmhgjhjheaaaUf
namespace Go.Proofs.Ytephmhgjhjheaaa
open Go.ChangeShapes Go.WideShapes Go.ChangeAt Go.RowKit
set_option linter.unusedVariables false

set_option maxRecDepth 100000 in
theorem slEqualFunc (A B : Option Addr) (c d : Nat) (la lb : List VtP) (w : World) (hA : la.length ≤ maxLen) (hB : lb.length ≤ maxLen) (ha : RdV w A la) (hb : RdV w B lb) :
    Calls Try.prog 108 #[.slice A la.length c, .slice B lb.length d, .func (.func 109) #[] #[]] w fun e w' => e = .returned (.bool (decide (la.map VtP.vt = lb.map VtP.vt))) ∧ Below w.heap.size w w' := by
  unfold maxLen at hA hB
  have HA := Lib.hid ha
  have HB := Lib.hid hb
  clear ha hb
  by_cases hl : la.length = lb.length
  · have hl1 : ((la.length : Int) != (lb.length : Int)) = false := by simp [hl]
    have HL := Lib.hid hl
    clear hl
    go_enter Try.func108, Try.ntmps108
    go_wp2
    go_loopw [17] (fun i wr => ∃ k : Nat, k ≤ la.length ∧ i = .int .i64 k ∧ Hid (Below w.heap.size w wr) ∧ Hid ((la.map VtP.vt).take k = (lb.map VtP.vt).take k)) (fun i _ => la.length - (intOf i).toNat)
    case atStart => exact ⟨0, Nat.zero_le _, rfl, Below.refl _ _, by simp [Hid]⟩
    case round =>
      obtain ⟨k, hk, rfl, hbw, ht⟩ := hrel
      by_cases hlt : k < la.length
      · have hltb : k < lb.length := by have := HL.out; omega
        obtain ⟨g, o, rfl, ca⟩ := Rd.below HA.out.1 hbw.out k hlt
        obtain ⟨g', o', rfl, cb⟩ := Rd.below HB.out.1 hbw.out k hltb
        have rx := (HA.out.2 la[k] (List.getElem_mem hlt)).below hbw.out
        have ry := (HB.out.2 lb[k] (List.getElem_mem hltb)).below hbw.out
        obtain ⟨x, hx⟩ : ∃ x, x = la[k] := ⟨_, rfl⟩
        obtain ⟨y, hy⟩ : ∃ y, y = lb[k] := ⟨_, rfl⟩
        rw [← hx] at ca rx
        rw [← hy] at cb ry
        have HX := Lib.hid hx
        have HY := Lib.hid hy
        have RX := Lib.hid rx
        have RY := Lib.hid ry
        have mx : x.cl.length ≤ maxLen := rx.1
        have my : y.cl.length ≤ maxLen := ry.1
        clear hx hy rx ry
        have a0 : wr.cell? ⟨g, o + k * 2, none⟩ = some (.int .i64 x.f) := ca 0 _ rfl
        have a1 : wr.cell? ⟨g, o + k * 2 + 1, none⟩ = some (.slice x.A x.cl.length x.c) := ca 1 _ rfl
        have b0 : wr.cell? ⟨g', o' + k * 2, none⟩ = some (.int .i64 y.f) := cb 0 _ rfl
        have b1 : wr.cell? ⟨g', o' + k * 2 + 1, none⟩ = some (.slice y.A y.cl.length y.c) := cb 1 _ rfl
        clear ca cb
        have i0 : (0 : Int) ≤ (k : Int) := by omega
        have i1 : (k : Int) < (la.length : Int) := by omega
        have i2 : (k : Int) < (lb.length : Int) := by omega
        have z1 := (Below.refl wr.heap.size wr).alloc (Nat.le_refl _) (.cells #[.int .i64 x.f, .slice x.A x.cl.length x.c] 58)
        have c0 := cell_kept z1 b0
        have c1 := cell_kept z1 b1
        have z2 := Lib.hid (below_alloc2 wr (.cells #[.int .i64 x.f, .slice x.A x.cl.length x.c] 58) (.cells #[.int .i64 y.f, .slice y.A y.cl.length y.c] 58))
        clear z1 b0 b1
        go_wp2_with (fail)
        refine (sameVote x y _ (RX.out.below z2.out) (RY.out.below z2.out)).mono ?_
        rintro e w1 ⟨rfl, h1⟩
        have BB := Lib.hid (Below.and (Below.and hbw.out z2.out) h1)
        rcases hc : decide (VtP.vt x = VtP.vt y) with _ | _
        · have HE : Hid (VtP.vt x ≠ VtP.vt y) := by simpa [Hid] using hc
          clear hc h1
          go_wp2
          go_ret
          exact ⟨ret_bool (decide_eq_false (map_ne_of_at hlt hltb (by rw [← HX.out, ← HY.out]; exact HE.out))).symm, BB.out⟩
        · have HE : Hid (VtP.vt x = VtP.vt y) := by simpa [Hid] using hc
          clear hc h1
          go_wp2
          go_roundw
          case rel => exact ⟨k + 1, by omega, by go_num, BB.out, map_take_step hlt hltb ht.out (by rw [← HX.out, ← HY.out]; exact HE.out)⟩
          case measure => simp [intOf]; omega
      · have hz : k = la.length := by omega
        have HZ := Lib.hid hz
        clear hz
        go_wp2
        go_ret
        have h1 := ht.out
        rw [List.take_of_length_le (by simp; have := HZ.out; omega), List.take_of_length_le (by simp; have := HZ.out; have := HL.out; omega)] at h1
        exact ⟨ret_bool (decide_eq_true h1).symm, hbw.out⟩
  · have hl1 : ((la.length : Int) != (lb.length : Int)) = true := by simp; omega
    have HL := Lib.hid hl
    clear hl
    go_enter Try.func108, Try.ntmps108
    go_wp2
    go_ret
    exact ⟨ret_bool (decide_eq_false (fun e => HL.out (by have := congrArg List.length e; simpa using this))).symm, Below.refl _ _⟩

end Go.Proofs.Ytephmhgjhjheaaa
