import Derived.Test.YtameldhdegcpoaaMA
import Derived.Test.YtameldhdegcpoaaRows
import Derived.Test.YtameldhdegcpoaaMB
import Derived.Laws.StructEq
import Derived.Test.YtameldhdegcpoaaMC
namespace Go.Proofs.Ytameldhdegcpoaa
open Go.ChangeShapes Go.WideShapes Go.ChangeAt Go.RowKit
theorem len5 {α : Type} (l : List α) (h : l.length = 5) : ∃ a b c d e, l = [a, b, c, d, e] :=
 match l, h with
 | [a, b, c, d, e], _ => ⟨a, b, c, d, e, rfl⟩
theorem len3 {α : Type} (l : List α) (h : l.length = 3) : ∃ a b c, l = [a, b, c] :=
 match l, h with
 | [a, b, c], _ => ⟨a, b, c, rfl⟩
set_option maxRecDepth 100000 in
theorem fieldsReq (d : Nat) (a b : Rq) (w : World) (xs ys : Array Value) (hx : xs = a.cells.toArray) (hy : ys = b.cells.toArray) : (Op.eqFields (d + 1) xs ys (Try.prog.fieldsOf 49).toList).run Try.prog w = .ok (decide (a = b)) w := by
 obtain ⟨a1, a2, a3, a4, a5⟩ := a
 obtain ⟨b1, b2, b3, b4, b5⟩ := b
 subst hx hy
 have hf : (Try.prog.fieldsOf 49).toList.map (fun f => (f.name, f.type, f.offset)) = [("Client", 3, 0), ("Num", 3, 1), ("Op", 3, 2), ("X", 3, 3), ("Y", 3, 4)] := by kernel_rfl
 generalize (Try.prog.fieldsOf 49).toList = fs at hf ⊢
 obtain ⟨f1, f2, f3, f4, f5, rfl⟩ := len5 fs (by have := congrArg List.length hf; simpa using this)
 simp only [List.map_cons, List.map_nil, List.cons.injEq, Prod.mk.injEq, and_true] at hf
 obtain ⟨⟨n1, t1, o1⟩, ⟨n2, t2, o2⟩, ⟨n3, t3, o3⟩, ⟨n4, t4, o4⟩, ⟨n5, t5, o5⟩⟩ := hf
 simp [Op.eqFields, n1, t1, o1, n2, t2, o2, n3, t3, o3, n4, t4, o4, n5, t5, o5, Rq.cells, go_sem]
 repeat' split
 all_goals simp_all
theorem eqlReq (a b : Rq) (w : World) : (binOp .eql 49 a.val b.val).run Try.prog w = .ok (.bool (decide (a = b))) w := by
 rw [run_eql_struct, run_equalIn_struct _ _ _ _ _ (by kernel_rfl) (by kernel_rfl), fieldsReq 9998 a b w #[.int .i64 a.c, .int .i64 a.n, .int .i64 a.o, .int .i64 a.x, .int .i64 a.y] #[.int .i64 b.c, .int .i64 b.n, .int .i64 b.o, .int .i64 b.x, .int .i64 b.y] rfl rfl]
 rfl
end Go.Proofs.Ytameldhdegcpoaa
namespace Go.Proofs.Ytameldhdegcpoaa
open Go.ChangeShapes Go.WideShapes Go.ChangeAt Go.RowKit
set_option linter.unusedVariables false
theorem toRq (r : Rq) (w : World) : Calls Try.prog 81 #[r.val] w fun e w' => e = .returned r.val ∧ Below w.heap.size w w' := toReq r.c r.n r.o r.x r.y w
theorem eqReq (a b : Rq) (w : World) :
 Calls Try.prog 84 #[a.val, b.val] w fun e w' => e = .returned (.bool (decide (a = b))) ∧ Below w.heap.size w w' := by
 obtain ⟨c, n, o, x, y⟩ := a
 obtain ⟨c', n', o', x', y'⟩ := b
 go_enter Try.func84, Try.ntmps84
 go_wp2
 all_goals go_light
 all_goals go_ret
 all_goals refine ⟨ret_bool ?_, ((Below.refl _ _).alloc (Nat.le_refl _) _).alloc (by simp) _⟩
 all_goals (simp_all)
set_option maxRecDepth 100000 in
theorem eqReqS (A B : Option Addr) (c d : Nat) (la lb : List Rq) (w : World) (hA : la.length ≤ maxLen) (ha : Rd 5 Rq.cells w A la) (hb : Rd 5 Rq.cells w B lb) :
 Calls Try.prog 51 #[.slice A la.length c, .slice B lb.length d] w fun e w' => e = .returned (.bool (decide (la = lb))) ∧ Below w.heap.size w w' := by
 unfold maxLen at hA
 have HA := Lib.hid ha
 have HB := Lib.hid hb
 clear ha hb
 by_cases hl : la.length = lb.length
 · have hl1 : ((la.length : Int) != (lb.length : Int)) = false := by simp [hl]
   have HL := Lib.hid hl
   clear hl
   go_enter Try.func51, Try.ntmps51
   go_wp2
   go_loopw [5] (fun i wr => ∃ k : Nat, k ≤ la.length ∧ i = .int .i64 k ∧ Hid (Below w.heap.size w wr) ∧ Hid (la.take k = lb.take k)) (fun i _ => la.length - (intOf i).toNat)
   case atStart => exact ⟨0, Nat.zero_le _, rfl, Below.refl _ _, by simp [Hid]⟩
   case round =>
    obtain ⟨k, hk, rfl, hbw, ht⟩ := hrel
    by_cases hlt : k < la.length
    · have hltb : k < lb.length := by have := HL.out; omega
      obtain ⟨g, o, rfl, ca⟩ := Rd.below HA.out hbw.out k hlt
      obtain ⟨g', o', rfl, cb⟩ := Rd.below HB.out hbw.out k hltb
      obtain ⟨x, hx⟩ : ∃ x, x = la[k] := ⟨_, rfl⟩
      obtain ⟨y, hy⟩ : ∃ y, y = lb[k] := ⟨_, rfl⟩
      rw [← hx] at ca
      rw [← hy] at cb
      have HX := Lib.hid hx
      have HY := Lib.hid hy
      clear hx hy
      have a0 : wr.cell? ⟨g, o + k * 5, none⟩ = some (.int .i64 x.c) := ca 0 _ rfl
      have a1 : wr.cell? ⟨g, o + k * 5 + 1, none⟩ = some (.int .i64 x.n) := ca 1 _ rfl
      have a2 : wr.cell? ⟨g, o + k * 5 + 2, none⟩ = some (.int .i64 x.o) := ca 2 _ rfl
      have a3 : wr.cell? ⟨g, o + k * 5 + 3, none⟩ = some (.int .i64 x.x) := ca 3 _ rfl
      have a4 : wr.cell? ⟨g, o + k * 5 + 4, none⟩ = some (.int .i64 x.y) := ca 4 _ rfl
      have b0 : wr.cell? ⟨g', o' + k * 5, none⟩ = some (.int .i64 y.c) := cb 0 _ rfl
      have b1 : wr.cell? ⟨g', o' + k * 5 + 1, none⟩ = some (.int .i64 y.n) := cb 1 _ rfl
      have b2 : wr.cell? ⟨g', o' + k * 5 + 2, none⟩ = some (.int .i64 y.o) := cb 2 _ rfl
      have b3 : wr.cell? ⟨g', o' + k * 5 + 3, none⟩ = some (.int .i64 y.x) := cb 3 _ rfl
      have b4 : wr.cell? ⟨g', o' + k * 5 + 4, none⟩ = some (.int .i64 y.y) := cb 4 _ rfl
      clear ca cb
      have i0 : (0 : Int) ≤ (k : Int) := by omega
      have i1 : (k : Int) < (la.length : Int) := by omega
      have i2 : (k : Int) < (lb.length : Int) := by omega
      by_cases hxy : x = y
      · subst hxy
        go_wp2_with (fail)
        refine wp_region_still_tail 8 (by kernel_rfl) (by kernel_rfl) ?_
        change wpStill _ _ (World.drew _) (fun a' => wpList _ _ _ _ a' (World.drew _)) _ _
        simp only [List.take_succ_cons, List.take_zero, List.drop_succ_cons, List.drop_zero]
        repeat still_step
        refine wpStill_nil ?_
        go_wp2_with (fail)
        refine (eqReq x x _).mono ?_
        rintro e w1 ⟨rfl, h1⟩
        rw [decide_eq_true rfl]
        go_wp2
        go_roundw
        case rel => exact ⟨k + 1, by omega, by go_num, Below.and hbw.out (Below.and (Below.refl _ _).drew h1), take_step hlt hltb ht.out (by rw [← HX.out, ← HY.out])⟩
        case measure => simp [intOf]; omega
      · have hd := Lib.hid hxy
        clear hxy
        go_wp2_with (fail)
        refine wp_region_still_tail 8 (by kernel_rfl) (by kernel_rfl) ?_
        change wpStill _ _ (World.drew _) (fun a' => wpList _ _ _ _ a' (World.drew _)) _ _
        simp only [List.take_succ_cons, List.take_zero, List.drop_succ_cons, List.drop_zero]
        repeat still_step
        refine wpStill_nil ?_
        go_wp2_with (fail)
        refine (eqReq x y _).mono ?_
        rintro e w1 ⟨rfl, h1⟩
        rw [decide_eq_false hd.out]
        go_wp2
        go_ret
        exact ⟨ret_bool (decide_eq_false (ne_of_at hlt hltb (by rw [← HX.out, ← HY.out]; exact hd.out))).symm, Below.and hbw.out (Below.and (Below.refl _ _).drew h1)⟩
    · have hz : k = la.length := by omega
      have HZ := Lib.hid hz
      clear hz
      go_wp2
      go_ret
      have h1 := ht.out
      rw [HZ.out, List.take_length, HL.out, List.take_length] at h1
      exact ⟨ret_bool (decide_eq_true h1).symm, hbw.out⟩
 · have hl1 : ((la.length : Int) != (lb.length : Int)) = true := by simp; omega
   have HL := Lib.hid hl
   clear hl
   go_enter Try.func51, Try.ntmps51
   go_wp2
   go_ret
   exact ⟨ret_bool (decide_eq_false (fun e => HL.out (by rw [e]))).symm, Below.refl _ _⟩
theorem szReqS (A : Option Addr) (n c : Nat) (left : Int) (w : World) (hn : n ≤ maxLen) (h0 : 0 ≤ left) (h1 : left ≤ 1048576) :
 Calls Try.prog 44 #[.slice A n c, .int .i64 left] w fun e w' => e = .returned (.int .i64 (if left - n < 0 then -1 else left - n)) ∧ w = w' := by
 unfold maxLen at hn
 go_enter Try.func44, Try.ntmps44
 by_cases h : left - (n : Int) < 0
 all_goals go_wp2
 all_goals go_ret
 all_goals first | exact ⟨rfl, rfl⟩ | exact ⟨ret_int (if_pos h).symm, rfl⟩ | exact ⟨ret_int (if_neg h).symm, rfl⟩
end Go.Proofs.Ytameldhdegcpoaa
namespace Go.Proofs.Ytameldhdegcpoaa
open Go.ChangeShapes Go.WideShapes Go.ChangeAt Go.RowKit
set_option linter.unusedVariables false
theorem infoReq : (Try.prog.info? 49).map (fun i => (i.zero, i.size, i.bytes)) = some (some (.agg #[.int .i64 0, .int .i64 0, .int .i64 0, .int .i64 0, .int .i64 0]), 5, 40) := by kernel_rfl
set_option maxRecDepth 100000 in
theorem toReqS (A : Option Addr) (c : Nat) (l : List Rq) (w : World) (hl : l.length ≤ 1048576) (h : Rd 5 Rq.cells w A l) :
 Calls Try.prog 48 #[.slice A l.length c] w fun e w' => ∃ g, e = .returned (.slice (some ⟨g, 0, none⟩) l.length l.length) ∧ g = w.heap.size ∧ w'.ownsRow w.heap.size 49 5 (.slice (some ⟨g, 0, none⟩) l.length l.length) l.length (l.flatMap Rq.cells) ∧ Below w.heap.size w w' := by
 obtain ⟨i0, hi, hz0, hz1, hz2⟩ := info_parts infoReq
 obtain ⟨w1, hmk, hown, hg1⟩ := run_make_full (P := Try.prog) w w.heap.size 31 49 i0 _ 5 Try.underlying31 hi hz0 hz1 .i64 .i64 l.length (by rw [hz2]; omega) (by unfold maxLen; omega) (Nat.le_refl _)
 have B1 := Below.of_none hg1
 have hx : l.length * 5 = ((madeCells (Value.agg #[.int .i64 0, .int .i64 0, .int .i64 0, .int .i64 0, .int .i64 0]).cells (l.length * 5)).toList).length := by have := hown.1; omega
 generalize (madeCells (Value.agg #[.int .i64 0, .int .i64 0, .int .i64 0, .int .i64 0, .int .i64 0]).cells (l.length * 5)).toList = xs at hown hx
 have HI := Lib.hid h
 have HX := Lib.hid hx
 have HO := Lib.hid hown
 have HB := Lib.hid B1
 clear h hx hown hg1 B1 hi hz0 hz1 hz2
 go_enter Try.func48, Try.ntmps48
 go_wp2
 go_loopw [4] (fun i wr => ∃ j : Nat, j ≤ l.length ∧ i = .int .i64 j ∧ Hid (wr.ownsRow w.heap.size 49 5 (.slice (some ⟨w.heap.size, 0, none⟩) l.length l.length) l.length ((l.take j).flatMap Rq.cells ++ xs.drop (j * 5))) ∧ Hid (w1.grownBy wr (some w.heap.size))) (fun i _ => l.length - (intOf i).toNat)
 case atStart => exact ⟨0, Nat.zero_le _, rfl, by simpa [Hid] using HO.out, World.grownBy.refl _ _⟩
 case round =>
  obtain ⟨j, hj, rfl, ho, hg⟩ := hrel
  by_cases hlt : j < l.length
  · obtain ⟨b, off, rfl, ca⟩ := HI.out j hlt
    have keep : ∀ {o : Nat} {u : Value}, w.cell? ⟨b, o, none⟩ = some u → wr.cell? ⟨b, o, none⟩ = some u := fun hc => hg.out.cell (cell_kept HB.out hc) (by have := World.block_lt_of_cell? w _ hc; simp at this ⊢; omega)
    have cb := fun (p : Nat) (u : Value) hu => keep (ca p u hu)
    clear ca keep
    have c0 : wr.cell? ⟨b, off + j * 5, none⟩ = some (.int .i64 l[j].c) := cb 0 _ rfl
    have c1 : wr.cell? ⟨b, off + j * 5 + 1, none⟩ = some (.int .i64 l[j].n) := cb 1 _ rfl
    have c2 : wr.cell? ⟨b, off + j * 5 + 2, none⟩ = some (.int .i64 l[j].o) := cb 2 _ rfl
    have c3 : wr.cell? ⟨b, off + j * 5 + 3, none⟩ = some (.int .i64 l[j].x) := cb 3 _ rfl
    have c4 : wr.cell? ⟨b, off + j * 5 + 4, none⟩ = some (.int .i64 l[j].y) := cb 4 _ rfl
    clear cb
    have i0 : (0 : Int) ≤ (j : Int) := by omega
    have i1 : (j : Int) < (l.length : Int) := by omega
    go_wp2_with (fail)
    refine (toRq l[j] wr).mono ?_
    rintro r w2 ⟨rfl, h2⟩
    have ho2 := own_below ho.out h2
    have hf := fun p => ho2.frozenAt p
    have hlen : ((l.take j).flatMap Rq.cells).length = j * 5 := by rw [rows_length 5 Rq.cells Rq.len, List.length_take, Nat.min_eq_left (by omega)]
    have hc : ∀ p, p < 5 → ∃ u, w2.cell? ⟨w.heap.size, j * 5 + p, none⟩ = some u := fun p hp => ⟨_, (ho2.cellAt (j * 5 + p) (by omega)).trans (List.getElem?_eq_getElem (by have := HX.out; rw [List.length_append, hlen, List.length_drop]; omega))⟩
    obtain ⟨v0, hv0⟩ := hc 0 (by omega)
    obtain ⟨v1, hv1⟩ := hc 1 (by omega)
    obtain ⟨v2, hv2⟩ := hc 2 (by omega)
    obtain ⟨v3, hv3⟩ := hc 3 (by omega)
    obtain ⟨v4, hv4⟩ := hc 4 (by omega)
    rw [Nat.add_zero] at hv0
    obtain ⟨s1, s2⟩ := store_all (l[j].cells) (j * 5) hlen (by have := HX.out; rw [Rq.len]; omega) ho2
    have e1 : (l.take (j + 1)).flatMap Rq.cells = (l.take j).flatMap Rq.cells ++ l[j].cells := by rw [List.take_succ_eq_append_getElem hlt, List.flatMap_append, List.flatMap_cons, List.flatMap_nil, List.append_nil]
    rw [← e1, Rq.len, show j * 5 + 5 = (j + 1) * 5 from by omega] at s1
    have S1 := Lib.hid s1
    have S2 := Lib.hid (grownBy_trans hg.out (grownBy_trans (Below.grownBy h2 _) s2))
    clear s1 s2 hc h2 ho2 e1 hlen c0 c1 c2 c3 c4
    go_wp2
    go_roundw
    case rel => exact ⟨j + 1, by omega, by go_num, S1.out, S2.out⟩
    case measure => simp [intOf]; omega
  · have hz : j = l.length := by omega
    have HZ := Lib.hid hz
    clear hz
    go_wp2
    go_ret
    have := ho.out
    rw [HZ.out, List.take_length, List.drop_of_length_le (by have := HX.out; omega), List.append_nil] at this
    exact ⟨_, rfl, rfl, this, Below.trans HB.out (Below.of_grown hg.out HB.out.size (by rintro k hk; cases hk; omega))⟩
end Go.Proofs.Ytameldhdegcpoaa
