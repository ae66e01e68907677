/- State checksums: checks, both ways; laid anew, held against their like, marked; rows of the call's own. -/
import Derived.Test.YtgbnoemoangofaaYa
import Derived.Test.YtgbnoemoangofaaMB
import Derived.Test.YtgbnoemoangofaaBk
import Derived.Test.YtgbnoemoangofaaHc
import Derived.Test.YtgbnoemoangofaaHe
import Derived.BigRegion
import Derived.BigQuiet
import Derived.Deep.QuietTactic
import Derived.Deep.Cut
namespace Go.Proofs.Ytgbnoemoangofaa
open Go.ChangeShapes Go.WideShapes Go.ChangeAt Go.RowKit
set_option linter.unusedVariables false
set_option linter.unusedSimpArgs false

theorem isKeepC (f : Int) (w : World) :
    Calls Try.prog 39 #[.int .i64 f] w fun e w' => e = .returned (.bool (inB f 0 3)) ∧ w = w' := by
  go_enter Try.func39, Try.ntmps39
  go_wp2_with (go_at_call 40; refine (implIn _ _ _ _).mono ?_; rintro e w' ⟨rfl, rfl⟩)
  go_ret
  exact ⟨rfl, rfl⟩

theorem implCheckOne (r : Ck) (w : World) :
    Calls Try.prog 32 #[r.val] w fun e w' => e = .returned (.bool (ckB r)) ∧ Below w.heap.size w w' := by
  have Z0 : Hid (Below w.heap.size w (w.alloc (.cells (ckCs r) 25))) := (Below.refl _ _).alloc (Nat.le_refl _) _
  rcases h1 : inB r.a 0 3 with _ | _
  · go_enter Try.func32, Try.ntmps32
    go_wp2_with (first | (go_at_call 39; refine (isKeepC _ _).mono ?_; rintro e w' ⟨rfl, rfl⟩; first | rw [h1]) | (go_at_call 40; refine (implIn _ _ _ _).mono ?_; rintro e w' ⟨rfl, rfl⟩; first | rw [h1]))
    go_light
    go_ret
    exact ⟨ret_bool (by unfold ckB; rw [h1]; rfl), Z0.out⟩
  rcases h2 : inB r.f 0 5 with _ | _
  · go_enter Try.func32, Try.ntmps32
    go_wp2_with (first | (go_at_call 39; refine (isKeepC _ _).mono ?_; rintro e w' ⟨rfl, rfl⟩; first | rw [h1] | rw [h2]) | (go_at_call 40; refine (implIn _ _ _ _).mono ?_; rintro e w' ⟨rfl, rfl⟩; first | rw [h1] | rw [h2]))
    go_light
    go_ret
    exact ⟨ret_bool (by unfold ckB; rw [h1, h2]; rfl), Z0.out⟩
  rcases h3 : inB r.n 0 4294967295 with _ | _
  · go_enter Try.func32, Try.ntmps32
    go_wp2_with (first | (go_at_call 39; refine (isKeepC _ _).mono ?_; rintro e w' ⟨rfl, rfl⟩; first | rw [h1] | rw [h2] | rw [h3]) | (go_at_call 40; refine (implIn _ _ _ _).mono ?_; rintro e w' ⟨rfl, rfl⟩; first | rw [h1] | rw [h2] | rw [h3]))
    go_light
    go_ret
    exact ⟨ret_bool (by unfold ckB; rw [h1, h2, h3]; rfl), Z0.out⟩
  go_enter Try.func32, Try.ntmps32
  go_wp2_with (first | (go_at_call 39; refine (isKeepC _ _).mono ?_; rintro e w' ⟨rfl, rfl⟩; first | rw [h1] | rw [h2] | rw [h3]) | (go_at_call 40; refine (implIn _ _ _ _).mono ?_; rintro e w' ⟨rfl, rfl⟩; first | rw [h1] | rw [h2] | rw [h3]))
  go_light
  go_ret
  exact ⟨ret_bool (by unfold ckB; rw [h1, h2, h3]; rfl), Z0.out⟩

theorem specCheckOne (r : Ck) (w : World) :
    Calls Try.prog 38 #[r.val] w fun e w' => e = .returned (.bool (ckB r)) ∧ Below w.heap.size w w' := by
  have Z0 : Hid (Below w.heap.size w (w.alloc (.cells (ckCs r) 25))) := (Below.refl _ _).alloc (Nat.le_refl _) _
  rcases h1 : inB r.a 0 3 with _ | _
  · go_enter Try.func38, Try.ntmps38
    go_wp2_with (first | (go_at_call 41; refine (specIn _ _ _ _).mono ?_; rintro e w' ⟨rfl, rfl⟩; first | rw [h1]))
    go_light
    go_ret
    exact ⟨ret_bool (by unfold ckB; rw [h1]; rfl), Z0.out⟩
  rcases h2 : inB r.f 0 5 with _ | _
  · go_enter Try.func38, Try.ntmps38
    go_wp2_with (first | (go_at_call 41; refine (specIn _ _ _ _).mono ?_; rintro e w' ⟨rfl, rfl⟩; first | rw [h1] | rw [h2]))
    go_light
    go_ret
    exact ⟨ret_bool (by unfold ckB; rw [h1, h2]; rfl), Z0.out⟩
  rcases h3 : inB r.n 0 4294967295 with _ | _
  · go_enter Try.func38, Try.ntmps38
    go_wp2_with (first | (go_at_call 41; refine (specIn _ _ _ _).mono ?_; rintro e w' ⟨rfl, rfl⟩; first | rw [h1] | rw [h2] | rw [h3]))
    go_light
    go_ret
    exact ⟨ret_bool (by unfold ckB; rw [h1, h2, h3]; rfl), Z0.out⟩
  go_enter Try.func38, Try.ntmps38
  go_wp2_with (first | (go_at_call 41; refine (specIn _ _ _ _).mono ?_; rintro e w' ⟨rfl, rfl⟩; first | rw [h1] | rw [h2] | rw [h3]))
  go_light
  go_ret
  exact ⟨ret_bool (by unfold ckB; rw [h1, h2, h3]; rfl), Z0.out⟩

theorem lenOfCheck {α : Type} (l : List α) (h : l.length = 3) : ∃ a1 a2 a3, l = [a1, a2, a3] :=
  match l, h with
  | [a1, a2, a3], _ => ⟨a1, a2, a3, rfl⟩
set_option maxRecDepth 100000 in
theorem fieldsCheck (d : Nat) (a b : Ck) (w : World) (xs ys : Array Value) (hx : xs = a.cells.toArray) (hy : ys = b.cells.toArray) : (Op.eqFields (d + 1) xs ys (Try.prog.fieldsOf 25).toList).run Try.prog w = .ok (decide (a = b)) w := by
  obtain ⟨a1, a2, a3⟩ := a
  obtain ⟨b1, b2, b3⟩ := b
  subst hx hy
  have hf : (Try.prog.fieldsOf 25).toList.map (fun f => (f.name, f.type, f.offset)) = [("From", 3, 0), ("Seq", 3, 1), ("Sum", 3, 2)] := by kernel_rfl
  generalize (Try.prog.fieldsOf 25).toList = fs at hf ⊢
  obtain ⟨f1, f2, f3, rfl⟩ := lenOfCheck fs (by have := congrArg List.length hf; simpa using this)
  simp only [List.map_cons, List.map_nil, List.cons.injEq, Prod.mk.injEq, and_true] at hf
  obtain ⟨⟨n1, t1, o1⟩, ⟨n2, t2, o2⟩, ⟨n3, t3, o3⟩⟩ := hf
  simp [Op.eqFields, n1, t1, o1, n2, t2, o2, n3, t3, o3, Ck.cells, go_sem]
  repeat' split
  all_goals simp_all
theorem eqlCheck (a b : Ck) (w : World) : (binOp .eql 25 (.agg #[.int .i64 a.a, .int .i64 a.f, .int .i64 a.n]) (.agg #[.int .i64 b.a, .int .i64 b.f, .int .i64 b.n])).run Try.prog w = .ok (.bool (decide (a = b))) w := by
  rw [run_eql_struct, run_equalIn_struct _ _ _ _ _ (by kernel_rfl) (by kernel_rfl), fieldsCheck 9998 a b w #[.int .i64 a.a, .int .i64 a.f, .int .i64 a.n] #[.int .i64 b.a, .int .i64 b.f, .int .i64 b.n] rfl rfl]
  rfl
theorem neqCheck (a b : Ck) (w : World) : (binOp .neq 25 (.agg #[.int .i64 a.a, .int .i64 a.f, .int .i64 a.n]) (.agg #[.int .i64 b.a, .int .i64 b.f, .int .i64 b.n])).run Try.prog w = .ok (.bool (!decide (a = b))) w := by
  rw [run_neq_struct, run_equalIn_struct _ _ _ _ _ (by kernel_rfl) (by kernel_rfl), fieldsCheck 9998 a b w #[.int .i64 a.a, .int .i64 a.f, .int .i64 a.n] #[.int .i64 b.a, .int .i64 b.f, .int .i64 b.n] rfl rfl]
  rfl

theorem toCheck (r : Ck) (w : World) :
    Calls Try.prog 25 #[r.val] w fun e w' => e = .returned r.val ∧ Below w.heap.size w w' := by
  obtain ⟨f, n, c⟩ := r
  go_enter Try.func25, Try.ntmps25
  go_wp2
  exact bodyPost_ret (v := .agg #[.int .i64 f, .int .i64 n, .int .i64 c]) (by simp [results, Try.results25, go_sem]) rfl ⟨rfl, (((Below.refl _ _).alloc (Nat.le_refl _) _).alloc (by simp) _).alloc (by simp; omega) _⟩

theorem eqCheck (a b : Ck) (w : World) :
    Calls Try.prog 36 #[a.val, b.val] w fun e w' => e = .returned (.bool (decide (a = b))) ∧ Below w.heap.size w w' := by
  obtain ⟨c, n, o⟩ := a
  obtain ⟨c', n', o'⟩ := b
  go_enter Try.func36, Try.ntmps36
  go_wp2
  all_goals go_light
  all_goals go_ret
  all_goals refine ⟨ret_bool ?_, ((Below.refl _ _).alloc (Nat.le_refl _) _).alloc (by simp) _⟩
  all_goals (simp_all)

set_option maxRecDepth 100000 in
theorem eqCheckS (A B : Option Addr) (c d : Nat) (la lb : List Ck) (w : World) (hA : la.length ≤ maxLen) (ha : Rd 3 Ck.cells w A la) (hb : Rd 3 Ck.cells w B lb) :
    Calls Try.prog 24 #[.slice A la.length c, .slice B lb.length d] w fun e w' => e = .returned (.bool (decide (la = lb))) ∧ Below w.heap.size w w' := by
  unfold maxLen at hA
  have HA := Lib.hid ha
  have HB := Lib.hid hb
  clear ha hb
  by_cases hl : la.length = lb.length
  · have hl1 : ((la.length : Int) != (lb.length : Int)) = false := by simp [hl]
    have HL := Lib.hid hl
    clear hl
    go_enter Try.func24, Try.ntmps24
    go_wp2
    go_loopw [5] (fun i wr => ∃ k : Nat, k ≤ la.length ∧ i = .int .i64 k ∧ Hid (Below w.heap.size w wr) ∧ Hid (la.take k = lb.take k)) (fun i _ => la.length - (intOf i).toNat)
    case atStart => exact ⟨0, Nat.zero_le _, rfl, Below.refl _ _, by simp [Hid]⟩
    case round =>
      obtain ⟨k, hk, rfl, hbw, ht⟩ := hrel
      by_cases hlt : k < la.length
      · have hltb : k < lb.length := by have := HL.out; omega
        obtain ⟨g, o, rfl, ca⟩ := Rd.below HA.out hbw.out k hlt
        obtain ⟨g', o', rfl, cb⟩ := Rd.below HB.out hbw.out k hltb
        obtain ⟨x, hx⟩ : ∃ x, x = la[k] := ⟨_, rfl⟩
        obtain ⟨y, hy⟩ : ∃ y, y = lb[k] := ⟨_, rfl⟩
        rw [← hx] at ca
        rw [← hy] at cb
        have HX := Lib.hid hx
        have HY := Lib.hid hy
        clear hx hy
        have a0 : wr.cell? ⟨g, o + k * 3, none⟩ = some (.int .i64 x.a) := ca 0 _ rfl
        have a1 : wr.cell? ⟨g, o + k * 3 + 1, none⟩ = some (.int .i64 x.f) := ca 1 _ rfl
        have a2 : wr.cell? ⟨g, o + k * 3 + 2, none⟩ = some (.int .i64 x.n) := ca 2 _ rfl
        have b0 : wr.cell? ⟨g', o' + k * 3, none⟩ = some (.int .i64 y.a) := cb 0 _ rfl
        have b1 : wr.cell? ⟨g', o' + k * 3 + 1, none⟩ = some (.int .i64 y.f) := cb 1 _ rfl
        have b2 : wr.cell? ⟨g', o' + k * 3 + 2, none⟩ = some (.int .i64 y.n) := cb 2 _ rfl
        clear ca cb
        have i0 : (0 : Int) ≤ (k : Int) := by omega
        have i1 : (k : Int) < (la.length : Int) := by omega
        have i2 : (k : Int) < (lb.length : Int) := by omega
        by_cases hxy : x = y
        · subst hxy
          go_wp2_with (fail)
          refine wp_region_still_tail 8 (by kernel_rfl) (by kernel_rfl) ?_
          change wpStill _ _ (World.drew _) (fun a' => wpList _ _ _ _ a' (World.drew _)) _ _
          simp only [List.take_succ_cons, List.take_zero, List.drop_succ_cons, List.drop_zero]
          repeat still_step
          refine wpStill_nil ?_
          go_wp2_with (fail)
          refine (eqCheck x x _).mono ?_
          rintro e w1 ⟨rfl, h1⟩
          rw [decide_eq_true rfl]
          go_wp2
          go_roundw
          case rel => exact ⟨k + 1, by omega, by go_num, Below.and hbw.out (Below.and (Below.refl _ _).drew h1), take_step hlt hltb ht.out (by rw [← HX.out, ← HY.out])⟩
          case measure => simp [intOf]; omega
        · have hd := Lib.hid hxy
          clear hxy
          go_wp2_with (fail)
          refine wp_region_still_tail 8 (by kernel_rfl) (by kernel_rfl) ?_
          change wpStill _ _ (World.drew _) (fun a' => wpList _ _ _ _ a' (World.drew _)) _ _
          simp only [List.take_succ_cons, List.take_zero, List.drop_succ_cons, List.drop_zero]
          repeat still_step
          refine wpStill_nil ?_
          go_wp2_with (fail)
          refine (eqCheck x y _).mono ?_
          rintro e w1 ⟨rfl, h1⟩
          rw [decide_eq_false hd.out]
          go_wp2
          go_ret
          exact ⟨ret_bool (decide_eq_false (ne_of_at hlt hltb (by rw [← HX.out, ← HY.out]; exact hd.out))).symm, Below.and hbw.out (Below.and (Below.refl _ _).drew h1)⟩
      · have hz : k = la.length := by omega
        have HZ := Lib.hid hz
        clear hz
        go_wp2
        go_ret
        have h1 := ht.out
        rw [HZ.out, List.take_length, HL.out, List.take_length] at h1
        exact ⟨ret_bool (decide_eq_true h1).symm, hbw.out⟩
  · have hl1 : ((la.length : Int) != (lb.length : Int)) = true := by simp; omega
    have HL := Lib.hid hl
    clear hl
    go_enter Try.func24, Try.ntmps24
    go_wp2
    go_ret
    exact ⟨ret_bool (decide_eq_false (fun e => HL.out (by rw [e]))).symm, Below.refl _ _⟩

theorem szCheckS (A : Option Addr) (n c : Nat) (left : Int) (w : World) (hn : n ≤ maxLen) (h0 : 0 ≤ left) (h1 : left ≤ 1048576) :
    Calls Try.prog 22 #[.slice A n c, .int .i64 left] w fun e w' => e = .returned (.int .i64 (if left - n < 0 then -1 else left - n)) ∧ w = w' := by
  unfold maxLen at hn
  go_enter Try.func22, Try.ntmps22
  by_cases h : left - (n : Int) < 0
  all_goals go_wp2
  all_goals go_ret
  all_goals first | exact ⟨rfl, rfl⟩ | exact ⟨ret_int (if_pos h).symm, rfl⟩ | exact ⟨ret_int (if_neg h).symm, rfl⟩

theorem infoCheck : (Try.prog.info? 25).map (fun i => (i.zero, i.size, i.bytes)) = some (some (.agg #[.int .i64 0, .int .i64 0, .int .i64 0]), 3, 24) := by kernel_rfl

set_option maxRecDepth 100000 in
theorem toCheckS (A : Option Addr) (c : Nat) (l : List Ck) (w : World) (hl : l.length ≤ 1048576) (h : Rd 3 Ck.cells w A l) :
    Calls Try.prog 23 #[.slice A l.length c] w fun e w' => ∃ g, e = .returned (.slice (some ⟨g, 0, none⟩) l.length l.length) ∧ g = w.heap.size ∧ w'.ownsRow w.heap.size 25 3 (.slice (some ⟨g, 0, none⟩) l.length l.length) l.length (l.flatMap Ck.cells) ∧ Below w.heap.size w w' := by
  obtain ⟨i0, hi, hz0, hz1, hz2⟩ := info_parts infoCheck
  obtain ⟨w1, hmk, hown, hg1⟩ := run_make_full (P := Try.prog) w w.heap.size 23 25 i0 _ 3 Try.underlying23 hi hz0 hz1 .i64 .i64 l.length (by rw [hz2]; omega) (by unfold maxLen; omega) (Nat.le_refl _)
  have B1 := Below.of_none hg1
  have hx : l.length * 3 = ((madeCells (Value.agg #[.int .i64 0, .int .i64 0, .int .i64 0]).cells (l.length * 3)).toList).length := by have := hown.1; omega
  generalize (madeCells (Value.agg #[.int .i64 0, .int .i64 0, .int .i64 0]).cells (l.length * 3)).toList = xs at hown hx
  have HI := Lib.hid h
  have HX := Lib.hid hx
  have HO := Lib.hid hown
  have HB := Lib.hid B1
  clear h hx hown hg1 B1 hi hz0 hz1 hz2
  go_enter Try.func23, Try.ntmps23
  go_wp2
  go_loopw [4] (fun i wr => ∃ j : Nat, j ≤ l.length ∧ i = .int .i64 j ∧ Hid (wr.ownsRow w.heap.size 25 3 (.slice (some ⟨w.heap.size, 0, none⟩) l.length l.length) l.length ((l.take j).flatMap Ck.cells ++ xs.drop (j * 3))) ∧ Hid (w1.grownBy wr (some w.heap.size))) (fun i _ => l.length - (intOf i).toNat)
  case atStart => exact ⟨0, Nat.zero_le _, rfl, by simpa [Hid] using HO.out, World.grownBy.refl _ _⟩
  case round =>
    obtain ⟨j, hj, rfl, ho, hg⟩ := hrel
    by_cases hlt : j < l.length
    · obtain ⟨b, off, rfl, ca⟩ := HI.out j hlt
      have keep : ∀ {o : Nat} {u : Value}, w.cell? ⟨b, o, none⟩ = some u → wr.cell? ⟨b, o, none⟩ = some u := fun hc => hg.out.cell (cell_kept HB.out hc) (by have := World.block_lt_of_cell? w _ hc; simp at this ⊢; omega)
      have cb := fun (p : Nat) (u : Value) hu => keep (ca p u hu)
      clear ca keep
      have c0 : wr.cell? ⟨b, off + j * 3, none⟩ = some (.int .i64 l[j].a) := cb 0 _ rfl
      have c1 : wr.cell? ⟨b, off + j * 3 + 1, none⟩ = some (.int .i64 l[j].f) := cb 1 _ rfl
      have c2 : wr.cell? ⟨b, off + j * 3 + 2, none⟩ = some (.int .i64 l[j].n) := cb 2 _ rfl
      clear cb
      have i0 : (0 : Int) ≤ (j : Int) := by omega
      have i1 : (j : Int) < (l.length : Int) := by omega
      go_wp2_with (fail)
      refine (toCheck l[j] wr).mono ?_
      rintro r w2 ⟨rfl, h2⟩
      have ho2 := own_below ho.out h2
      have hf := fun p => ho2.frozenAt p
      have hlen : ((l.take j).flatMap Ck.cells).length = j * 3 := by rw [rows_length 3 Ck.cells Ck.len, List.length_take, Nat.min_eq_left (by omega)]
      have hc : ∀ p, p < 3 → ∃ u, w2.cell? ⟨w.heap.size, j * 3 + p, none⟩ = some u := fun p hp => ⟨_, (ho2.cellAt (j * 3 + p) (by omega)).trans (List.getElem?_eq_getElem (by have := HX.out; rw [List.length_append, hlen, List.length_drop]; omega))⟩
      obtain ⟨v0, hv0⟩ := hc 0 (by omega)
      obtain ⟨v1, hv1⟩ := hc 1 (by omega)
      obtain ⟨v2, hv2⟩ := hc 2 (by omega)
      rw [Nat.add_zero] at hv0
      obtain ⟨s1, s2⟩ := store_all (l[j].cells) (j * 3) hlen (by have := HX.out; rw [Ck.len]; omega) ho2
      have e1 : (l.take (j + 1)).flatMap Ck.cells = (l.take j).flatMap Ck.cells ++ l[j].cells := by rw [List.take_succ_eq_append_getElem hlt, List.flatMap_append, List.flatMap_cons, List.flatMap_nil, List.append_nil]
      rw [← e1, Ck.len, show j * 3 + 3 = (j + 1) * 3 from by omega] at s1
      have S1 := Lib.hid s1
      have S2 := Lib.hid (grownBy_trans hg.out (grownBy_trans (Below.grownBy h2 _) s2))
      clear s1 s2 hc h2 ho2 e1 hlen c0 c1 c2
      go_wp2
      go_roundw
      case rel => exact ⟨j + 1, by omega, by go_num, S1.out, S2.out⟩
      case measure => simp [intOf]; omega
    · have hz : j = l.length := by omega
      have HZ := Lib.hid hz
      clear hz
      go_wp2
      go_ret
      have := ho.out
      rw [HZ.out, List.take_length, List.drop_of_length_le (by have := HX.out; omega), List.append_nil] at this
      exact ⟨_, rfl, rfl, this, Below.trans HB.out (Below.of_grown hg.out HB.out.size (by rintro k hk; cases hk; omega))⟩

theorem markCheck1 {w : World} {base : Nat} {e : TypeId} {g n c : Nat} {k : Int} {xs : List Value} (j : Nat) (hj : j < n) (hx : n * 3 = xs.length)
    (h : w.ownsRow base e 3 (.slice (some ⟨g, 0, none⟩) n c) n (ints (marks k (j * 3)) ++ xs.drop (j * 3))) :
    (((w.setCell ⟨g, j * 3, none⟩ (.int .i64 (k + 3 * (j : Int)))).setCell ⟨g, j * 3 + 1, none⟩ (.int .i64 (k + 3 * (j : Int) + 1))).setCell ⟨g, j * 3 + 2, none⟩ (.int .i64 (k + 3 * (j : Int) + 1 + 1))).ownsRow base e 3 (.slice (some ⟨g, 0, none⟩) n c) n (ints (marks k ((j + 1) * 3)) ++ xs.drop ((j + 1) * 3)) ∧
    w.grownBy (((w.setCell ⟨g, j * 3, none⟩ (.int .i64 (k + 3 * (j : Int)))).setCell ⟨g, j * 3 + 1, none⟩ (.int .i64 (k + 3 * (j : Int) + 1))).setCell ⟨g, j * 3 + 2, none⟩ (.int .i64 (k + 3 * (j : Int) + 1 + 1))) (some g) := by
  obtain ⟨h1, g1⟩ := mark1 (j * 3) (k + 3 * (j : Int)) (by omega) (by omega) hx h
  obtain ⟨h2, g2⟩ := mark1 (j * 3 + 1) (k + 3 * (j : Int) + 1) (by omega) (by omega) hx h1
  obtain ⟨h3, g3⟩ := mark1 (j * 3 + 2) (k + 3 * (j : Int) + 1 + 1) (by omega) (by omega) hx h2
  rw [show (j + 1) * 3 = j * 3 + 2 + 1 from by omega]
  exact ⟨h3, (grownBy_trans (grownBy_trans g1 g2) g3)⟩

set_option maxRecDepth 100000 in
set_option maxHeartbeats 1000000 in
theorem markCheckS (base : Nat) (A : Option Addr) (c n : Nat) (xs : List Value) (k : Int) (w : World) (h0 : 0 ≤ k) (h1 : k + 3 * n ≤ 4611686018427387904) (hn : n ≤ maxLen) (hown : w.ownsRow base 25 3 (.slice A n c) n xs) :
    Calls Try.prog 26 #[.slice A n c, .int .i64 k] w fun e w' => e = .returned (.int .i64 (k + 3 * n)) ∧ w'.ownsRow base 25 3 (.slice A n c) n (ints (marks k (n * 3))) ∧ w.grownBy w' (Value.slice A n c).ownBlock := by
  unfold maxLen at hn
  have HO := Lib.hid hown
  have hxl : n * 3 = xs.length := by have := hown.1; omega
  have HX := Lib.hid hxl
  clear hown hxl
  go_enter Try.func26, Try.ntmps26
  go_wp2
  go_loopw [1, 5] (fun kk i wr => ∃ j : Nat, j ≤ n ∧ i = .int .i64 j ∧ kk = .int .i64 (k + 3 * j) ∧ Hid (wr.ownsRow base 25 3 (.slice A n c) n (ints (marks k (j * 3)) ++ xs.drop (j * 3))) ∧ Hid (w.grownBy wr (Value.slice A n c).ownBlock)) (fun _ i _ => n - (intOf i).toNat)
  case atStart => exact ⟨0, Nat.zero_le _, rfl, by simp, by simpa [Hid, marks] using HO.out, World.grownBy.refl _ _⟩
  case round =>
    obtain ⟨j, hj, rfl, rfl, ho, hg⟩ := hrel
    by_cases hlt : j < n
    · obtain ⟨g, rfl, hb, _⟩ := own_some ho.out (by omega)
      have hf := fun p => ho.out.frozenAt p
      have hc : ∀ p, p < 3 → ∃ u, wr.cell? ⟨g, j * 3 + p, none⟩ = some u := fun p hp => ⟨_, (ho.out.cellAt (j * 3 + p) (by omega)).trans (List.getElem?_eq_getElem (by have := HX.out; simp; omega))⟩
      obtain ⟨u0, hu0⟩ := hc 0 (by omega)
      obtain ⟨u1, hu1⟩ := hc 1 (by omega)
      obtain ⟨u2, hu2⟩ := hc 2 (by omega)
      rw [Nat.add_zero] at hu0
      clear hc
      have i0 : (0 : Int) ≤ (j : Int) := by omega
      have i1 : (j : Int) < (n : Int) := by omega
      obtain ⟨m1, m2⟩ := markCheck1 (k := k) (xs := xs) j hlt HX.out ho.out
      have M1 := Lib.hid m1
      have M2 := Lib.hid (grownBy_trans hg.out m2)
      clear m1 m2
      go_wp2
      go_roundw
      case rel => exact ⟨j + 1, by omega, by go_num, by go_num, M1.out, M2.out⟩
      case measure => simp [intOf]; omega
    · have hz : j = n := by omega
      have HZ := Lib.hid hz
      clear hz
      go_wp2
      go_ret
      have := ho.out
      rw [HZ.out] at this ⊢
      rw [List.drop_of_length_le (by have := HX.out; omega), List.append_nil] at this
      exact ⟨rfl, this, hg.out⟩

set_option maxRecDepth 100000 in
set_option maxHeartbeats 1000000 in
theorem heldCheckS (A : Option Addr) (c n : Nat) (k : Int) (w : World) (h0 : 0 ≤ k) (h1 : k + 3 * n ≤ 4611686018427387904) (hn : n ≤ maxLen) (hr : RdM w A (n * 3) k) :
    Calls Try.prog 27 #[.slice A n c, .int .i64 k] w fun e w' => e = .returned (.int .i64 (k + 3 * n)) ∧ w' = w := by
  unfold maxLen at hn
  have HR := Lib.hid hr
  clear hr
  go_enter Try.func27, Try.ntmps27
  go_wp2
  go_loop [1, 5] (fun kk i => ∃ j : Nat, j ≤ n ∧ i = .int .i64 j ∧ kk = .int .i64 (k + 3 * j)) (fun _ i => n - (intOf i).toNat)
  case atStart => exact ⟨0, Nat.zero_le _, rfl, by simp⟩
  case round =>
    obtain ⟨j, hj, rfl, rfl⟩ := hrel
    by_cases hlt : j < n
    · obtain ⟨g, rfl, c0⟩ := HR.out (j * 3) (by omega)
      obtain ⟨g1, e1, c1⟩ := HR.out (j * 3 + 1) (by omega)
      obtain ⟨g2, e2, c2⟩ := HR.out (j * 3 + 2) (by omega)
      cases e1; cases e2
      rw [show k + ((j * 3 : Nat) : Int) = k + 3 * (j : Int) from by omega] at c0
      rw [show k + ((j * 3 + 1 : Nat) : Int) = k + 3 * (j : Int) + 1 from by omega] at c1
      rw [show k + ((j * 3 + 2 : Nat) : Int) = k + 3 * (j : Int) + 1 + 1 from by omega] at c2
      have i0 : (0 : Int) ≤ (j : Int) := by omega
      have i1 : (j : Int) < (n : Int) := by omega
      go_wp2
      go_round
      case rel => exact ⟨j + 1, by omega, by go_num, by go_num⟩
      case measure => simp [intOf]; omega
    · have hz : j = n := by omega
      have HZ := Lib.hid hz
      clear hz
      go_wp2
      go_ret
      rw [HZ.out]
      exact ⟨rfl, rfl⟩

def OwK (w : World) (lo : Nat) (A : Option Addr) (a : Nat) (L : List Ck) : Prop := w.ownsRow lo 25 3 (.slice A L.length a) L.length (L.flatMap Ck.cells)
theorem OwK.below {w w' : World} {lo : Nat} {A : Option Addr} {a : Nat} {L : List Ck} (h : OwK w lo A a L) (hb : Below w.heap.size w w') : OwK w' lo A a L := own_below (show w.ownsRow _ _ _ _ _ _ from h) hb
theorem OwK.put {w : World} {lo : Nat} {A : Option Addr} {a : Nat} {L : List Ck} (h : OwK w lo A a L) {q : Nat} (hq : q < lo) (o : Nat) (u : Value) : OwK (w.setCell ⟨q, o, none⟩ u) lo A a L := own_put (show w.ownsRow _ _ _ _ _ _ from h) hq o u
theorem OwK.base {w : World} {lo p : Nat} {A : Option Addr} {a : Nat} {L : List Ck} (h : OwK w p A a L) (hl : lo ≤ p) : OwK w lo A a L := own_base (show w.ownsRow _ _ _ _ _ _ from h) hl
theorem OwK.rd {w : World} {lo : Nat} {A : Option Addr} {a : Nat} {L : List Ck} (h : OwK w lo A a L) : Rd 3 Ck.cells w A L := Rd.of_own (f := Ck.cells) (k := 3) (fun _ => rfl) (show w.ownsRow _ _ _ _ _ _ from h) rfl
theorem OwK.nil (w : World) (lo : Nat) : OwK w lo none 0 [] := World.ownsRow_nil _ _ _ _
theorem own_typeK {w : World} {base p : Nat} {e t : TypeId} {size n : Nat} {v : Value} {xs : List Value} {cs : Array Value} (h : w.ownsRow base e size v n xs) (hG : w.heap[p]? = some (.cells cs t)) (hne : e ≠ t) : v.ownBlock ≠ some p := fun e0 => by
  rcases h.2 with ⟨rfl, _⟩ | ⟨g, cap, cur, rfl, _, h3, _⟩
  · simp [Value.ownBlock] at e0
  · simp only [Value.ownBlock, Option.some.injEq] at e0
    subst e0
    rw [hG] at h3
    simp only [Option.some.injEq, Obj.cells.injEq] at h3
    exact hne h3.2.1.symm
theorem OwK.apart {w : World} {lo p : Nat} {A : Option Addr} {a : Nat} {L : List Ck} {t : TypeId} {cs : Array Value} (h : OwK w lo A a L) (hT : Bkk w p t cs) (hne : 25 ≠ t) : (Value.slice A L.length a).ownBlock ≠ some p := own_typeK (show w.ownsRow _ _ _ _ _ _ from h) hT hne
theorem OwK.box {w : World} {lo p : Nat} {A : Option Addr} {a : Nat} {L : List Ck} {t : TypeId} {cs : Array Value} (h : OwK w lo A a L) (hT : Bkk w p t cs) (hne : 25 ≠ t) (o : Nat) (u : Value) : OwK (w.setCell ⟨p, o, none⟩ u) lo A a L :=
  own_same (show w.ownsRow _ _ _ _ _ _ from h) (fun k hk => heap_setCell_other w ⟨p, o, none⟩ k _ (by
    intro e
    subst e
    exact h.apart hT hne hk))
theorem ck_one (L : List Ck) : ∀ u ∈ L.flatMap Ck.cells, u.oneCell' = true := by
  intro u hu
  simp only [List.mem_flatMap, Ck.cells] at hu
  obtain ⟨a, _, hu⟩ := hu
  simp at hu
  rcases hu with rfl | rfl | rfl <;> rfl
theorem ck_row (w : World) (t : TypeId) (x : Ck) : Rd 3 Ck.cells (w.alloc (.cells (ckCs x) t)) (some ⟨w.heap.size, 0, none⟩) [x] := by
  intro i h
  have hi : i = 0 := by simpa using h
  subst hi
  refine ⟨w.heap.size, 0, rfl, fun j u hu => ?_⟩
  have hb := cell_of_row _ _ j _ t (0, 0) (heap_alloc_new w (.cells (ckCs x) t))
  rw [show 0 + 0 * 3 + j = j by omega, hb]
  simpa [Ck.cells] using hu
theorem OwK.push {w' : World} {lo : Nat} {L : List Ck} {v' : Value} {r : Ck} (ho : w'.ownsRow lo 25 3 v' (L.length + 1) (L.flatMap Ck.cells ++ [r].flatMap Ck.cells)) :
    ∃ A' a', v' = .slice A' (L ++ [r]).length a' ∧ OwK w' lo A' a' (L ++ [r]) := by
  obtain ⟨A', a', rfl⟩ := own_formH ho
  have hl : L.length + 1 = (L ++ [r]).length := by simp
  rw [← List.flatMap_append, hl] at ho
  exact ⟨A', a', by rw [hl], ho⟩
theorem Bkk.grownK {w w' : World} {g : Nat} {t : TypeId} {cs : Array Value} {row : Option Nat} (h : Bkk w g t cs) (hb : w.grownBy w' row) (hg : some g ≠ row) : Bkk w' g t cs := (hb.block g h.lt hg).trans h
theorem own_capK {w : World} {base : Nat} {e : TypeId} {size : Nat} {A : Option Addr} {c n : Nat} {xs : List Value} (h : w.ownsRow base e size (.slice A n c) n xs) : n ≤ c ∧ (A = none → c = 0) ∧ c ≤ maxLen := by
  rcases h.2 with ⟨h1, h2⟩ | ⟨g, cap, cur, h1, h2, h3, h4, h5, h6⟩
  · simp only [Value.slice.injEq] at h1
    exact ⟨by omega, fun _ => h1.2.2, by omega⟩
  · simp only [Value.slice.injEq] at h1
    obtain ⟨h8, _, h9⟩ := h1
    subst h8 h9
    exact ⟨h4, (fun e => by cases e), h5⟩
structure RdK (w : World) (A : Option Addr) (a : Nat) (L : List Ck) : Prop where
  r : Rd 3 Ck.cells w A L
  nA : A = none → a = 0
theorem RdK.below {w w' : World} {A : Option Addr} {a : Nat} {L : List Ck} (h : RdK w A a L) (hb : Below w.heap.size w w') : RdK w' A a L := ⟨Rd.below h.r hb, h.nA⟩
theorem OwK.rdT {w : World} {lo : Nat} {A : Option Addr} {a : Nat} {L : List Ck} (h : OwK w lo A a L) : RdK w A a L := ⟨h.rd, (own_capK (show w.ownsRow _ _ _ _ _ _ from h)).2.1⟩
def atK (L : List Ck) (i : Nat) : Ck := L.getD i ⟨0, 0, 0⟩
theorem at_eqK (L : List Ck) (i : Nat) (h : i < L.length) : atK L i = L[i] := by simp [atK, List.getD, List.getElem?_eq_getElem h]
theorem rdK_at {w : World} {A : Option Addr} {L : List Ck} (h : Rd 3 Ck.cells w A L) (h0 : 0 < L.length) : ∃ g o : Nat, A = some ⟨g, o, none⟩ ∧ g < w.heap.size ∧ ∀ i, i < L.length →
    w.cell? ⟨g, o + i * 3, none⟩ = some (.int .i64 (atK L i).a) ∧ w.cell? ⟨g, o + i * 3 + 1, none⟩ = some (.int .i64 (atK L i).f) ∧ w.cell? ⟨g, o + i * 3 + 2, none⟩ = some (.int .i64 (atK L i).n) := by
  obtain ⟨g, o, rfl, c0⟩ := h 0 h0
  refine ⟨g, o, rfl, World.block_lt_of_cell? w _ (c0 0 _ rfl), fun i hi => ?_⟩
  obtain ⟨b, o', hA, hc⟩ := h i hi
  injection hA with hA
  injection hA with h1 h2 h3
  subst h1 h2
  rw [at_eqK L i hi]
  exact ⟨hc 0 _ rfl, hc 1 _ rfl, hc 2 _ rfl⟩
theorem own_gK {w : World} {lo : Nat} {A : Option Addr} {a : Nat} {L : List Ck} (h : OwK w lo A a L) (h0 : 0 < L.length) : ∃ g, A = some ⟨g, 0, none⟩ ∧ lo ≤ g ∧ g < w.heap.size := own_some (show w.ownsRow _ _ _ _ _ _ from h) h0
theorem OwK.frz {w : World} {lo g a : Nat} {L : List Ck} (h : OwK w lo (some ⟨g, 0, none⟩) a L) : ∀ o, w.frozen? ⟨g, o, none⟩ = false := fun o => (show w.ownsRow _ _ _ _ _ _ from h).frozenAt o
theorem ownCK {w : World} {lo g a : Nat} {L : List Ck} (h : OwK w lo (some ⟨g, 0, none⟩) a L) (i : Nat) (hi : i < L.length) (x : Ck) (hx : atK L i = x) :
    w.cell? ⟨g, i * 3, none⟩ = some (.int .i64 x.a) ∧ w.cell? ⟨g, i * 3 + 1, none⟩ = some (.int .i64 x.f) ∧ w.cell? ⟨g, i * 3 + 2, none⟩ = some (.int .i64 x.n) := by
  subst hx
  obtain ⟨g', o', hA, _, C⟩ := rdK_at h.rd (by omega)
  injection hA with hA
  injection hA with h1 h2 h3
  subst h1 h2
  have := C i hi
  simpa using this
theorem OwK.lt {w : World} {lo : Nat} {A : Option Addr} {a : Nat} {L : List Ck} (h : OwK w lo A a L) : ∀ k, (Value.slice A L.length a).ownBlock = some k → lo ≤ k ∧ k < w.heap.size := own_block_ge (show World.ownsRow _ _ _ _ _ _ _ from h)
theorem OwK.grown {w w' : World} {lo : Nat} {A : Option Addr} {a : Nat} {L : List Ck} {row : Option Nat} (h : OwK w lo A a L) (hg : w.grownBy w' row) (hr : ∀ k, (Value.slice A L.length a).ownBlock = some k → row ≠ some k) : OwK w' lo A a L :=
  own_same (show w.ownsRow _ _ _ _ _ _ from h) (fun k hk => hg.block k (h.lt k hk).2 (fun e => hr k hk e.symm))
structure OwKI (w : World) (lo hi : Nat) (A : Option Addr) (a : Nat) (L : List Ck) : Prop where
  own : OwK w lo A a L
  ub : ∀ k, (Value.slice A L.length a).ownBlock = some k → k < hi
theorem OwKI.bk {w : World} {lo hi : Nat} {A : Option Addr} {a : Nat} {L : List Ck} (h : OwKI w lo hi A a L) : ∀ k, (Value.slice A L.length a).ownBlock = some k → lo ≤ k ∧ k < hi := fun k hk => ⟨(own_block_ge (show World.ownsRow _ _ _ _ _ _ _ from h.own) k hk).1, h.ub k hk⟩
theorem OwK.bd {w : World} {lo : Nat} {A : Option Addr} {a : Nat} {L : List Ck} (h : OwK w lo A a L) : OwKI w lo w.heap.size A a L := ⟨h, fun k hk => (own_block_ge (show World.ownsRow _ _ _ _ _ _ _ from h) k hk).2⟩
theorem OwKI.below {w w' : World} {lo hi : Nat} {A : Option Addr} {a : Nat} {L : List Ck} (h : OwKI w lo hi A a L) (hb : Below w.heap.size w w') : OwKI w' lo hi A a L := ⟨h.own.below hb, h.ub⟩
theorem OwKI.grown {w w' : World} {lo hi : Nat} {A : Option Addr} {a : Nat} {L : List Ck} {row : Option Nat} (h : OwKI w lo hi A a L) (hg : w.grownBy w' row) (hr : ∀ k, row = some k → k < lo ∨ hi ≤ k) : OwKI w' lo hi A a L := by
  refine ⟨own_same (show w.ownsRow _ _ _ _ _ _ from h.own) (fun k hk => hg.block k (own_block_ge (show w.ownsRow _ _ _ _ _ _ from h.own) k hk).2 (fun e => ?_)), h.ub⟩
  have h1 := h.bk k hk
  rcases hr k e.symm with h2 | h2 <;> omega
theorem Bkk.grownK' {w w' : World} {g : Nat} {t : TypeId} {cs : Array Value} {row : Option Nat} (h : Bkk w g t cs) (hb : w.grownBy w' row) (hr : ∀ k, row = some k → k ≠ g) : Bkk w' g t cs := h.grownK hb (fun e => hr g e.symm rfl)
end Go.Proofs.Ytgbnoemoangofaa
