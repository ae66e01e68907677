/- Eq, Ua, Uaa, Ub, Uc, Ud, Ue, Uf, Uh, Ug -/
import Derived.Test.YtfelhnchnaggmaaMA
import Derived.Test.YtfelhnchnaggmaaRows
import Derived.Test.YtfelhnchnaggmaaMB
import Derived.Laws.StructEq
import Derived.Test.YtfelhnchnaggmaaMC
/- Requests and claims held against each other by ==. -/
namespace Go.Proofs.Ytfelhnchnaggmaa
open Go.ChangeShapes Go.WideShapes Go.ChangeAt Go.RowKit

theorem len5 {α : Type} (l : List α) (h : l.length = 5) : ∃ a b c d e, l = [a, b, c, d, e] :=
  match l, h with
  | [a, b, c, d, e], _ => ⟨a, b, c, d, e, rfl⟩
theorem len3 {α : Type} (l : List α) (h : l.length = 3) : ∃ a b c, l = [a, b, c] :=
  match l, h with
  | [a, b, c], _ => ⟨a, b, c, rfl⟩

set_option maxRecDepth 100000 in
theorem fieldsReq (d : Nat) (a b : Rq) (w : World) (xs ys : Array Value) (hx : xs = a.cells.toArray) (hy : ys = b.cells.toArray) : (Op.eqFields (d + 1) xs ys (Try.prog.fieldsOf 69).toList).run Try.prog w = .ok (decide (a = b)) w := by
  obtain ⟨a1, a2, a3, a4, a5⟩ := a
  obtain ⟨b1, b2, b3, b4, b5⟩ := b
  subst hx hy
  have hf : (Try.prog.fieldsOf 69).toList.map (fun f => (f.name, f.type, f.offset)) = [("Client", 3, 0), ("Num", 3, 1), ("Op", 3, 2), ("X", 3, 3), ("Y", 3, 4)] := by kernel_rfl
  generalize (Try.prog.fieldsOf 69).toList = fs at hf ⊢
  obtain ⟨f1, f2, f3, f4, f5, rfl⟩ := len5 fs (by have := congrArg List.length hf; simpa using this)
  simp only [List.map_cons, List.map_nil, List.cons.injEq, Prod.mk.injEq, and_true] at hf
  obtain ⟨⟨n1, t1, o1⟩, ⟨n2, t2, o2⟩, ⟨n3, t3, o3⟩, ⟨n4, t4, o4⟩, ⟨n5, t5, o5⟩⟩ := hf
  simp [Op.eqFields, n1, t1, o1, n2, t2, o2, n3, t3, o3, n4, t4, o4, n5, t5, o5, Rq.cells, go_sem]
  repeat' split
  all_goals simp_all

theorem eqlReq (a b : Rq) (w : World) : (binOp .eql 69 a.val b.val).run Try.prog w = .ok (.bool (decide (a = b))) w := by
  rw [run_eql_struct, run_equalIn_struct _ _ _ _ _ (by kernel_rfl) (by kernel_rfl), fieldsReq 9998 a b w #[.int .i64 a.c, .int .i64 a.n, .int .i64 a.o, .int .i64 a.x, .int .i64 a.y] #[.int .i64 b.c, .int .i64 b.n, .int .i64 b.o, .int .i64 b.x, .int .i64 b.y] rfl rfl]
  rfl

theorem neqReq (a b : Rq) (w : World) : (binOp .neq 69 a.val b.val).run Try.prog w = .ok (.bool (!decide (a = b))) w := by
  rw [run_neq_struct, run_equalIn_struct _ _ _ _ _ (by kernel_rfl) (by kernel_rfl), fieldsReq 9998 a b w #[.int .i64 a.c, .int .i64 a.n, .int .i64 a.o, .int .i64 a.x, .int .i64 a.y] #[.int .i64 b.c, .int .i64 b.n, .int .i64 b.o, .int .i64 b.x, .int .i64 b.y] rfl rfl]
  rfl

set_option maxRecDepth 100000 in
theorem fieldsClaim (d : Nat) (a b : Cl) (w : World) (xs ys : Array Value) (hx : xs = a.cells.toArray) (hy : ys = b.cells.toArray) : (Op.eqFields (d + 2) xs ys (Try.prog.fieldsOf 77).toList).run Try.prog w = .ok (decide (a = b)) w := by
  obtain ⟨s, v, a⟩ := a
  obtain ⟨s', v', b⟩ := b
  subst hx hy
  have hf : (Try.prog.fieldsOf 77).toList.map (fun f => (f.name, f.type, f.offset)) = [("Seq", 3, 0), ("View", 3, 1), ("Req", 69, 2)] := by kernel_rfl
  have hr := fieldsReq d a b
  have h1 := run_equalIn_struct (P := Try.prog) (t := 69) (hp := by kernel_rfl) (ht := by kernel_rfl)
  generalize (Try.prog.fieldsOf 77).toList = fs at hf ⊢
  obtain ⟨f1, f2, f3, rfl⟩ := len3 fs (by have := congrArg List.length hf; simpa using this)
  simp only [List.map_cons, List.map_nil, List.cons.injEq, Prod.mk.injEq, and_true] at hf
  obtain ⟨⟨n1, t1, o1⟩, ⟨n2, t2, o2⟩, ⟨n3, t3, o3⟩⟩ := hf
  simp [Op.eqFields, n1, t1, o1, n2, t2, o2, n3, t3, o3, Cl.cells, go_sem]
  obtain ⟨a1, a2, a3, a4, a5⟩ := a
  obtain ⟨b1, b2, b3, b4, b5⟩ := b
  clear hr h1
  repeat' split
  all_goals simp_all

theorem eqlClaim (a b : Cl) (w : World) : (binOp .eql 77 a.val b.val).run Try.prog w = .ok (.bool (decide (a = b))) w := by
  rw [run_eql_struct, run_equalIn_struct _ _ _ _ _ (by kernel_rfl) (by kernel_rfl), fieldsClaim 9997 a b w #[.int .i64 a.s, .int .i64 a.v, .int .i64 a.r.c, .int .i64 a.r.n, .int .i64 a.r.o, .int .i64 a.r.x, .int .i64 a.r.y] #[.int .i64 b.s, .int .i64 b.v, .int .i64 b.r.c, .int .i64 b.r.n, .int .i64 b.r.o, .int .i64 b.r.x, .int .i64 b.r.y] rfl rfl]
  rfl

theorem neqClaim (a b : Cl) (w : World) : (binOp .neq 77 a.val b.val).run Try.prog w = .ok (.bool (!decide (a = b))) w := by
  rw [run_neq_struct, run_equalIn_struct _ _ _ _ _ (by kernel_rfl) (by kernel_rfl), fieldsClaim 9997 a b w #[.int .i64 a.s, .int .i64 a.v, .int .i64 a.r.c, .int .i64 a.r.n, .int .i64 a.r.o, .int .i64 a.r.x, .int .i64 a.r.y] #[.int .i64 b.s, .int .i64 b.v, .int .i64 b.r.c, .int .i64 b.r.n, .int .i64 b.r.o, .int .i64 b.r.x, .int .i64 b.r.y] rfl rfl]
  rfl
end Go.Proofs.Ytfelhnchnaggmaa

/- The laws' own helpers over requests and claims. -/
namespace Go.Proofs.Ytfelhnchnaggmaa
open Go.ChangeShapes Go.WideShapes Go.ChangeAt Go.RowKit
set_option linter.unusedVariables false

theorem toRq (r : Rq) (w : World) : Calls Try.prog 92 #[r.val] w fun e w' => e = .returned r.val ∧ Below w.heap.size w w' := toReq r.c r.n r.o r.x r.y w

theorem eqReq (a b : Rq) (w : World) :
    Calls Try.prog 95 #[a.val, b.val] w fun e w' => e = .returned (.bool (decide (a = b))) ∧ Below w.heap.size w w' := by
  obtain ⟨c, n, o, x, y⟩ := a
  obtain ⟨c', n', o', x', y'⟩ := b
  go_enter Try.func95, Try.ntmps95
  go_wp2
  all_goals go_light
  all_goals go_ret
  all_goals refine ⟨ret_bool ?_, ((Below.refl _ _).alloc (Nat.le_refl _) _).alloc (by simp) _⟩
  all_goals (simp_all)

theorem eqClaim (a b : Cl) (w : World) :
    Calls Try.prog 109 #[a.val, b.val] w fun e w' => e = .returned (.bool (decide (a = b))) ∧ Below w.heap.size w w' := by
  obtain ⟨s, v, r⟩ := a
  obtain ⟨s', v', r'⟩ := b
  have z0 := Lib.hid (below_alloc2 w (.cells #[.int .i64 s, .int .i64 v, .int .i64 r.c, .int .i64 r.n, .int .i64 r.o, .int .i64 r.x, .int .i64 r.y] 77) (.cells #[.int .i64 s', .int .i64 v', .int .i64 r'.c, .int .i64 r'.n, .int .i64 r'.o, .int .i64 r'.x, .int .i64 r'.y] 77))
  rcases h1 : (s != s') with _ | _
  · rcases h2 : (v != v') with _ | _
    · go_enter Try.func109, Try.ntmps109
      go_wp2_with (fail)
      refine (eqReq r r' _).mono ?_
      rintro e w1 ⟨rfl, hb⟩
      rcases he : decide (r = r') with _ | _
      all_goals go_wp2
      all_goals go_light
      all_goals go_ret
      all_goals exact ⟨ret_bool (by simp_all), Below.and z0.out hb⟩
    · go_enter Try.func109, Try.ntmps109
      go_wp2
      go_light
      go_ret
      exact ⟨ret_bool (by simp_all), z0.out⟩
  · go_enter Try.func109, Try.ntmps109
    go_wp2
    go_light
    go_ret
    exact ⟨ret_bool (by simp_all), z0.out⟩

set_option maxRecDepth 100000 in
theorem eqClaimS (A B : Option Addr) (c d : Nat) (la lb : List Cl) (w : World) (hA : la.length ≤ maxLen) (ha : Rd 7 Cl.cells w A la) (hb : Rd 7 Cl.cells w B lb) :
    Calls Try.prog 94 #[.slice A la.length c, .slice B lb.length d] w fun e w' => e = .returned (.bool (decide (la = lb))) ∧ Below w.heap.size w w' := by
  unfold maxLen at hA
  have HA := Lib.hid ha
  have HB := Lib.hid hb
  clear ha hb
  by_cases hl : la.length = lb.length
  · have hl1 : ((la.length : Int) != (lb.length : Int)) = false := by simp [hl]
    have HL := Lib.hid hl
    clear hl
    go_enter Try.func94, Try.ntmps94
    go_wp2
    go_loopw [5] (fun i wr => ∃ k : Nat, k ≤ la.length ∧ i = .int .i64 k ∧ Hid (Below w.heap.size w wr) ∧ Hid (la.take k = lb.take k)) (fun i _ => la.length - (intOf i).toNat)
    case atStart => exact ⟨0, Nat.zero_le _, rfl, Below.refl _ _, by simp [Hid]⟩
    case round =>
      obtain ⟨k, hk, rfl, hbw, ht⟩ := hrel
      by_cases hlt : k < la.length
      · have hltb : k < lb.length := by have := HL.out; omega
        obtain ⟨g, o, rfl, ca⟩ := Rd.below HA.out hbw.out k hlt
        obtain ⟨g', o', rfl, cb⟩ := Rd.below HB.out hbw.out k hltb
        obtain ⟨x, hx⟩ : ∃ x, x = la[k] := ⟨_, rfl⟩
        obtain ⟨y, hy⟩ : ∃ y, y = lb[k] := ⟨_, rfl⟩
        rw [← hx] at ca
        rw [← hy] at cb
        have HX := Lib.hid hx
        have HY := Lib.hid hy
        clear hx hy
        have a0 : wr.cell? ⟨g, o + k * 7, none⟩ = some (.int .i64 x.s) := ca 0 _ rfl
        have a1 : wr.cell? ⟨g, o + k * 7 + 1, none⟩ = some (.int .i64 x.v) := ca 1 _ rfl
        have a2 : wr.cell? ⟨g, o + k * 7 + 2, none⟩ = some (.int .i64 x.r.c) := ca 2 _ rfl
        have a3 : wr.cell? ⟨g, o + k * 7 + 3, none⟩ = some (.int .i64 x.r.n) := ca 3 _ rfl
        have a4 : wr.cell? ⟨g, o + k * 7 + 4, none⟩ = some (.int .i64 x.r.o) := ca 4 _ rfl
        have a5 : wr.cell? ⟨g, o + k * 7 + 5, none⟩ = some (.int .i64 x.r.x) := ca 5 _ rfl
        have a6 : wr.cell? ⟨g, o + k * 7 + 6, none⟩ = some (.int .i64 x.r.y) := ca 6 _ rfl
        have b0 : wr.cell? ⟨g', o' + k * 7, none⟩ = some (.int .i64 y.s) := cb 0 _ rfl
        have b1 : wr.cell? ⟨g', o' + k * 7 + 1, none⟩ = some (.int .i64 y.v) := cb 1 _ rfl
        have b2 : wr.cell? ⟨g', o' + k * 7 + 2, none⟩ = some (.int .i64 y.r.c) := cb 2 _ rfl
        have b3 : wr.cell? ⟨g', o' + k * 7 + 3, none⟩ = some (.int .i64 y.r.n) := cb 3 _ rfl
        have b4 : wr.cell? ⟨g', o' + k * 7 + 4, none⟩ = some (.int .i64 y.r.o) := cb 4 _ rfl
        have b5 : wr.cell? ⟨g', o' + k * 7 + 5, none⟩ = some (.int .i64 y.r.x) := cb 5 _ rfl
        have b6 : wr.cell? ⟨g', o' + k * 7 + 6, none⟩ = some (.int .i64 y.r.y) := cb 6 _ rfl
        clear ca cb
        have i0 : (0 : Int) ≤ (k : Int) := by omega
        have i1 : (k : Int) < (la.length : Int) := by omega
        have i2 : (k : Int) < (lb.length : Int) := by omega
        by_cases hxy : x = y
        · subst hxy
          go_wp2_with (fail)
          refine wp_region_still_tail 8 (by kernel_rfl) (by kernel_rfl) ?_
          change wpStill _ _ (World.drew _) (fun a' => wpList _ _ _ _ a' (World.drew _)) _ _
          simp only [List.take_succ_cons, List.take_zero, List.drop_succ_cons, List.drop_zero]
          repeat still_step
          refine wpStill_nil ?_
          go_wp2_with (fail)
          refine (eqClaim x x _).mono ?_
          rintro e w1 ⟨rfl, h1⟩
          rw [decide_eq_true rfl]
          go_wp2
          go_roundw
          case rel => exact ⟨k + 1, by omega, by go_num, Below.and hbw.out (Below.and (Below.refl _ _).drew h1), take_step hlt hltb ht.out (by rw [← HX.out, ← HY.out])⟩
          case measure => simp [intOf]; omega
        · have hd := Lib.hid hxy
          clear hxy
          go_wp2_with (fail)
          refine wp_region_still_tail 8 (by kernel_rfl) (by kernel_rfl) ?_
          change wpStill _ _ (World.drew _) (fun a' => wpList _ _ _ _ a' (World.drew _)) _ _
          simp only [List.take_succ_cons, List.take_zero, List.drop_succ_cons, List.drop_zero]
          repeat still_step
          refine wpStill_nil ?_
          go_wp2_with (fail)
          refine (eqClaim x y _).mono ?_
          rintro e w1 ⟨rfl, h1⟩
          rw [decide_eq_false hd.out]
          go_wp2
          go_ret
          exact ⟨ret_bool (decide_eq_false (ne_of_at hlt hltb (by rw [← HX.out, ← HY.out]; exact hd.out))).symm, Below.and hbw.out (Below.and (Below.refl _ _).drew h1)⟩
      · have hz : k = la.length := by omega
        have HZ := Lib.hid hz
        clear hz
        go_wp2
        go_ret
        have h1 := ht.out
        rw [HZ.out, List.take_length, HL.out, List.take_length] at h1
        exact ⟨ret_bool (decide_eq_true h1).symm, hbw.out⟩
  · have hl1 : ((la.length : Int) != (lb.length : Int)) = true := by simp; omega
    have HL := Lib.hid hl
    clear hl
    go_enter Try.func94, Try.ntmps94
    go_wp2
    go_ret
    exact ⟨ret_bool (decide_eq_false (fun e => HL.out (by rw [e]))).symm, Below.refl _ _⟩

theorem szClaimS (A : Option Addr) (n c : Nat) (left : Int) (w : World) (hn : n ≤ maxLen) (h0 : 0 ≤ left) (h1 : left ≤ 1048576) :
    Calls Try.prog 85 #[.slice A n c, .int .i64 left] w fun e w' => e = .returned (.int .i64 (if left - n < 0 then -1 else left - n)) ∧ w = w' := by
  unfold maxLen at hn
  go_enter Try.func85, Try.ntmps85
  by_cases h : left - (n : Int) < 0
  all_goals go_wp2
  all_goals go_ret
  all_goals first | exact ⟨rfl, rfl⟩ | exact ⟨ret_int (if_pos h).symm, rfl⟩ | exact ⟨ret_int (if_neg h).symm, rfl⟩

end Go.Proofs.Ytfelhnchnaggmaa

/- The laws' own helper over claims and claims. -/
namespace Go.Proofs.Ytfelhnchnaggmaa
open Go.ChangeShapes Go.WideShapes Go.ChangeAt Go.RowKit
set_option linter.unusedVariables false

set_option maxHeartbeats 400000 in
theorem toClaim (a : Cl) (w : World) :
    Calls Try.prog 107 #[a.val] w fun e w' => e = .returned a.val ∧ Below w.heap.size w w' := by
  obtain ⟨s, v, r⟩ := a
  go_enter Try.func107, Try.ntmps107
  go_wp2_with (fail)
  refine (toRq r _).mono ?_
  rintro e w1 ⟨rfl, hb⟩
  obtain ⟨hc, hf⟩ := bcell hb
  have hz : w.heap.size + 1 + 1 < w1.heap.size := by have := hb.size; simp at this; omega
  have B := Lib.hid (below_box3 hb)
  go_wp2
  refine bodyPost_ret (v := .agg #[.int .i64 s, .int .i64 v, .int .i64 r.c, .int .i64 r.n, .int .i64 r.o, .int .i64 r.x, .int .i64 r.y]) ?hv ?hd ?hp
  · simp [results, Try.results107, go_sem, hc]
  · rfl
  · clear hb hc hf
    refine ⟨rfl, ?_⟩
    iterate 12 (refine Below.setCell ?_ (by first | (simp; done) | (simp; omega)) _)
    exact B.out

end Go.Proofs.Ytfelhnchnaggmaa

/- Requests and claims that came in, made the program's own. -/
namespace Go.Proofs.Ytfelhnchnaggmaa
open Go.ChangeShapes Go.WideShapes Go.ChangeAt Go.RowKit
set_option linter.unusedVariables false

theorem infoReq : (Try.prog.info? 69).map (fun i => (i.zero, i.size, i.bytes)) = some (some (.agg #[.int .i64 0, .int .i64 0, .int .i64 0, .int .i64 0, .int .i64 0]), 5, 40) := by kernel_rfl

theorem infoClaim : (Try.prog.info? 77).map (fun i => (i.zero, i.size, i.bytes)) = some (some (.agg #[.int .i64 0, .int .i64 0, .int .i64 0, .int .i64 0, .int .i64 0, .int .i64 0, .int .i64 0]), 7, 56) := by kernel_rfl

set_option maxRecDepth 100000 in
theorem toClaimS (A : Option Addr) (c : Nat) (l : List Cl) (w : World) (hl : l.length ≤ 1048576) (h : Rd 7 Cl.cells w A l) :
    Calls Try.prog 91 #[.slice A l.length c] w fun e w' => ∃ g, e = .returned (.slice (some ⟨g, 0, none⟩) l.length l.length) ∧ g = w.heap.size ∧ w'.ownsRow w.heap.size 77 7 (.slice (some ⟨g, 0, none⟩) l.length l.length) l.length (l.flatMap Cl.cells) ∧ Below w.heap.size w w' := by
  obtain ⟨i0, hi, hz0, hz1, hz2⟩ := info_parts infoClaim
  obtain ⟨w1, hmk, hown, hg1⟩ := run_make_full (P := Try.prog) w w.heap.size 45 77 i0 _ 7 Try.underlying45 hi hz0 hz1 .i64 .i64 l.length (by rw [hz2]; omega) (by unfold maxLen; omega) (Nat.le_refl _)
  have B1 := Below.of_none hg1
  have hx : l.length * 7 = ((madeCells (Value.agg #[.int .i64 0, .int .i64 0, .int .i64 0, .int .i64 0, .int .i64 0, .int .i64 0, .int .i64 0]).cells (l.length * 7)).toList).length := by have := hown.1; omega
  generalize (madeCells (Value.agg #[.int .i64 0, .int .i64 0, .int .i64 0, .int .i64 0, .int .i64 0, .int .i64 0, .int .i64 0]).cells (l.length * 7)).toList = xs at hown hx
  have HI := Lib.hid h
  have HX := Lib.hid hx
  have HO := Lib.hid hown
  have HB := Lib.hid B1
  clear h hx hown hg1 B1 hi hz0 hz1 hz2
  go_enter Try.func91, Try.ntmps91
  go_wp2
  go_loopw [4] (fun i wr => ∃ j : Nat, j ≤ l.length ∧ i = .int .i64 j ∧ Hid (wr.ownsRow w.heap.size 77 7 (.slice (some ⟨w.heap.size, 0, none⟩) l.length l.length) l.length ((l.take j).flatMap Cl.cells ++ xs.drop (j * 7))) ∧ Hid (w1.grownBy wr (some w.heap.size))) (fun i _ => l.length - (intOf i).toNat)
  case atStart => exact ⟨0, Nat.zero_le _, rfl, by simpa [Hid] using HO.out, World.grownBy.refl _ _⟩
  case round =>
    obtain ⟨j, hj, rfl, ho, hg⟩ := hrel
    by_cases hlt : j < l.length
    · obtain ⟨b, off, rfl, ca⟩ := HI.out j hlt
      have keep : ∀ {o : Nat} {u : Value}, w.cell? ⟨b, o, none⟩ = some u → wr.cell? ⟨b, o, none⟩ = some u := fun hc => hg.out.cell (cell_kept HB.out hc) (by have := World.block_lt_of_cell? w _ hc; simp at this ⊢; omega)
      have cb := fun (p : Nat) (u : Value) hu => keep (ca p u hu)
      clear ca keep
      have c0 : wr.cell? ⟨b, off + j * 7, none⟩ = some (.int .i64 l[j].s) := cb 0 _ rfl
      have c1 : wr.cell? ⟨b, off + j * 7 + 1, none⟩ = some (.int .i64 l[j].v) := cb 1 _ rfl
      have c2 : wr.cell? ⟨b, off + j * 7 + 2, none⟩ = some (.int .i64 l[j].r.c) := cb 2 _ rfl
      have c3 : wr.cell? ⟨b, off + j * 7 + 3, none⟩ = some (.int .i64 l[j].r.n) := cb 3 _ rfl
      have c4 : wr.cell? ⟨b, off + j * 7 + 4, none⟩ = some (.int .i64 l[j].r.o) := cb 4 _ rfl
      have c5 : wr.cell? ⟨b, off + j * 7 + 5, none⟩ = some (.int .i64 l[j].r.x) := cb 5 _ rfl
      have c6 : wr.cell? ⟨b, off + j * 7 + 6, none⟩ = some (.int .i64 l[j].r.y) := cb 6 _ rfl
      clear cb
      have i0 : (0 : Int) ≤ (j : Int) := by omega
      have i1 : (j : Int) < (l.length : Int) := by omega
      go_wp2_with (fail)
      refine (toClaim l[j] wr).mono ?_
      rintro r w2 ⟨rfl, h2⟩
      have ho2 := own_below ho.out h2
      have hf := fun p => ho2.frozenAt p
      have hlen : ((l.take j).flatMap Cl.cells).length = j * 7 := by rw [rows_length 7 Cl.cells Cl.len, List.length_take, Nat.min_eq_left (by omega)]
      have hc : ∀ p, p < 7 → ∃ u, w2.cell? ⟨w.heap.size, j * 7 + p, none⟩ = some u := fun p hp => ⟨_, (ho2.cellAt (j * 7 + p) (by omega)).trans (List.getElem?_eq_getElem (by have := HX.out; rw [List.length_append, hlen, List.length_drop]; omega))⟩
      obtain ⟨v0, hv0⟩ := hc 0 (by omega)
      obtain ⟨v1, hv1⟩ := hc 1 (by omega)
      obtain ⟨v2, hv2⟩ := hc 2 (by omega)
      obtain ⟨v3, hv3⟩ := hc 3 (by omega)
      obtain ⟨v4, hv4⟩ := hc 4 (by omega)
      obtain ⟨v5, hv5⟩ := hc 5 (by omega)
      obtain ⟨v6, hv6⟩ := hc 6 (by omega)
      rw [Nat.add_zero] at hv0
      obtain ⟨s1, s2⟩ := store_all (l[j].cells) (j * 7) hlen (by have := HX.out; rw [Cl.len]; omega) ho2
      have e1 : (l.take (j + 1)).flatMap Cl.cells = (l.take j).flatMap Cl.cells ++ l[j].cells := by rw [List.take_succ_eq_append_getElem hlt, List.flatMap_append, List.flatMap_cons, List.flatMap_nil, List.append_nil]
      rw [← e1, Cl.len, show j * 7 + 7 = (j + 1) * 7 from by omega] at s1
      have S1 := Lib.hid s1
      have S2 := Lib.hid (grownBy_trans hg.out (grownBy_trans (Below.grownBy h2 _) s2))
      clear s1 s2 hc h2 ho2 e1 hlen c0 c1 c2 c3 c4 c5 c6
      go_wp2
      go_roundw
      case rel => exact ⟨j + 1, by omega, by go_num, S1.out, S2.out⟩
      case measure => simp [intOf]; omega
    · have hz : j = l.length := by omega
      have HZ := Lib.hid hz
      clear hz
      go_wp2
      go_ret
      have := ho.out
      rw [HZ.out, List.take_length, List.drop_of_length_le (by have := HX.out; omega), List.append_nil] at this
      exact ⟨_, rfl, rfl, this, Below.trans HB.out (Below.of_grown hg.out HB.out.size (by rintro k hk; cases hk; omega))⟩

end Go.Proofs.Ytfelhnchnaggmaa

/- The laws' own helpers over votes. -/
namespace Go.Proofs.Ytfelhnchnaggmaa
open Go.ChangeShapes Go.WideShapes Go.ChangeAt Go.RowKit
set_option linter.unusedVariables false

theorem eqVote (p q : VtP) (w : World) (hp : p.rd w) (hq : q.rd w) :
    Calls Try.prog 110 #[p.val, q.val] w fun e w' => e = .returned (.bool (decide (p.vt = q.vt))) ∧ Below w.heap.size w w' := by
  obtain ⟨g, A, c, l⟩ := p
  obtain ⟨g', A', c', l'⟩ := q
  have z0 := Lib.hid (below_alloc2 w (.cells #[.int .i64 g, .slice A l.length c] 103) (.cells #[.int .i64 g', .slice A' l'.length c'] 103))
  have H1 := Lib.hid (hp.2.below z0.out)
  have H2 := Lib.hid (hq.2.below z0.out)
  have m1 : l.length ≤ maxLen := hp.1
  clear hp hq
  rcases h1 : (g != g') with _ | _
  · go_enter Try.func110, Try.ntmps110
    go_wp2_with (fail)
    refine (eqClaimS A A' c c' l l' _ m1 H1.out H2.out).mono ?_
    rintro e w1 ⟨rfl, hb⟩
    rcases he : decide (l = l') with _ | _
    all_goals go_wp2
    all_goals go_light
    all_goals go_ret
    all_goals exact ⟨ret_bool (by simp_all [VtP.vt]), Below.and z0.out hb⟩
  · go_enter Try.func110, Try.ntmps110
    go_wp2
    go_light
    go_ret
    exact ⟨ret_bool (by simp_all [VtP.vt]), z0.out⟩

theorem szVote (p : VtP) (left : Int) (w : World) (hn : p.cl.length ≤ maxLen) (h0 : 0 ≤ left) (h1 : left ≤ 1048576) :
    Calls Try.prog 106 #[p.val, .int .i64 left] w fun e w' => e = .returned (.int .i64 (if left - p.cl.length < 0 then -1 else left - p.cl.length)) ∧ Below w.heap.size w w' := by
  obtain ⟨g, A, c, l⟩ := p
  have z0 : Below w.heap.size w (w.alloc (.cells #[.int .i64 g, .slice A l.length c] 137)) := (Below.refl _ _).alloc (Nat.le_refl _) _
  have Z0 := Lib.hid z0
  clear z0
  go_enter Try.func106, Try.ntmps106
  go_wp2_with (fail)
  refine (szClaimS A l.length c left _ hn h0 h1).mono ?_
  rintro e w1 ⟨rfl, rfl⟩
  replace hn : l.length ≤ maxLen := hn
  unfold maxLen at hn
  by_cases h : left - (l.length : Int) < 0
  · rw [if_pos h]
    go_wp2
    go_light
    go_ret
    exact ⟨rfl, Z0.out⟩
  · rw [if_neg h]
    go_wp2
    go_light
    go_ret
    exact ⟨rfl, Z0.out⟩

theorem map_take_step {α β : Type} {f : α → β} {la lb : List α} {k : Nat} (ha : k < la.length) (hb : k < lb.length) (h : (la.map f).take k = (lb.map f).take k) (he : f la[k] = f lb[k]) : (la.map f).take (k + 1) = (lb.map f).take (k + 1) :=
  take_step (by simpa using ha) (by simpa using hb) h (by simpa using he)

theorem map_ne_of_at {α β : Type} {f : α → β} {la lb : List α} {k : Nat} (ha : k < la.length) (hb : k < lb.length) (he : f la[k] ≠ f lb[k]) : la.map f ≠ lb.map f :=
  ne_of_at (by simpa using ha) (by simpa using hb) (k := k) (by simpa using he)

set_option maxRecDepth 100000 in
theorem eqVoteS (A B : Option Addr) (c d : Nat) (la lb : List VtP) (w : World) (hA : la.length ≤ maxLen) (ha : RdV w A la) (hb : RdV w B lb) :
    Calls Try.prog 96 #[.slice A la.length c, .slice B lb.length d] w fun e w' => e = .returned (.bool (decide (la.map VtP.vt = lb.map VtP.vt))) ∧ Below w.heap.size w w' := by
  unfold maxLen at hA
  have HA := Lib.hid ha
  have HB := Lib.hid hb
  clear ha hb
  by_cases hl : la.length = lb.length
  · have hl1 : ((la.length : Int) != (lb.length : Int)) = false := by simp [hl]
    have HL := Lib.hid hl
    clear hl
    go_enter Try.func96, Try.ntmps96
    go_wp2
    go_loopw [5] (fun i wr => ∃ k : Nat, k ≤ la.length ∧ i = .int .i64 k ∧ Hid (Below w.heap.size w wr) ∧ Hid ((la.map VtP.vt).take k = (lb.map VtP.vt).take k)) (fun i _ => la.length - (intOf i).toNat)
    case atStart => exact ⟨0, Nat.zero_le _, rfl, Below.refl _ _, by simp [Hid]⟩
    case round =>
      obtain ⟨k, hk, rfl, hbw, ht⟩ := hrel
      by_cases hlt : k < la.length
      · have hltb : k < lb.length := by have := HL.out; omega
        obtain ⟨g, o, rfl, ca⟩ := Rd.below HA.out.1 hbw.out k hlt
        obtain ⟨g', o', rfl, cb⟩ := Rd.below HB.out.1 hbw.out k hltb
        have rx := (HA.out.2 la[k] (List.getElem_mem hlt)).below hbw.out
        have ry := (HB.out.2 lb[k] (List.getElem_mem hltb)).below hbw.out
        obtain ⟨x, hx⟩ : ∃ x, x = la[k] := ⟨_, rfl⟩
        obtain ⟨y, hy⟩ : ∃ y, y = lb[k] := ⟨_, rfl⟩
        rw [← hx] at ca rx
        rw [← hy] at cb ry
        have HX := Lib.hid hx
        have HY := Lib.hid hy
        have RX := Lib.hid rx
        have RY := Lib.hid ry
        clear hx hy rx ry
        have a0 : wr.cell? ⟨g, o + k * 2, none⟩ = some (.int .i64 x.f) := ca 0 _ rfl
        have a1 : wr.cell? ⟨g, o + k * 2 + 1, none⟩ = some (.slice x.A x.cl.length x.c) := ca 1 _ rfl
        have b0 : wr.cell? ⟨g', o' + k * 2, none⟩ = some (.int .i64 y.f) := cb 0 _ rfl
        have b1 : wr.cell? ⟨g', o' + k * 2 + 1, none⟩ = some (.slice y.A y.cl.length y.c) := cb 1 _ rfl
        clear ca cb
        have i0 : (0 : Int) ≤ (k : Int) := by omega
        have i1 : (k : Int) < (la.length : Int) := by omega
        have i2 : (k : Int) < (lb.length : Int) := by omega
        by_cases hxy : VtP.vt x = VtP.vt y
        · have HE := Lib.hid hxy
          clear hxy
          go_wp2_with (fail)
          refine wp_region_still_tail 8 (by kernel_rfl) (by kernel_rfl) ?_
          change wpStill _ _ (World.drew _) (fun a' => wpList _ _ _ _ a' (World.drew _)) _ _
          simp only [List.take_succ_cons, List.take_zero, List.drop_succ_cons, List.drop_zero]
          repeat still_step
          refine wpStill_nil ?_
          go_wp2_with (fail)
          refine (eqVote x y _ (RX.out.below (Below.refl _ _).drew) (RY.out.below (Below.refl _ _).drew)).mono ?_
          rintro e w1 ⟨rfl, h1⟩
          rw [decide_eq_true HE.out]
          go_wp2
          go_roundw
          case rel => exact ⟨k + 1, by omega, by go_num, Below.and hbw.out (Below.and (Below.refl _ _).drew h1), map_take_step hlt hltb ht.out (by rw [← HX.out, ← HY.out]; exact HE.out)⟩
          case measure => simp [intOf]; omega
        · have HE := Lib.hid hxy
          clear hxy
          go_wp2_with (fail)
          refine wp_region_still_tail 8 (by kernel_rfl) (by kernel_rfl) ?_
          change wpStill _ _ (World.drew _) (fun a' => wpList _ _ _ _ a' (World.drew _)) _ _
          simp only [List.take_succ_cons, List.take_zero, List.drop_succ_cons, List.drop_zero]
          repeat still_step
          refine wpStill_nil ?_
          go_wp2_with (fail)
          refine (eqVote x y _ (RX.out.below (Below.refl _ _).drew) (RY.out.below (Below.refl _ _).drew)).mono ?_
          rintro e w1 ⟨rfl, h1⟩
          rw [decide_eq_false HE.out]
          go_wp2
          go_ret
          exact ⟨ret_bool (decide_eq_false (map_ne_of_at hlt hltb (by rw [← HX.out, ← HY.out]; exact HE.out))).symm, Below.and hbw.out (Below.and (Below.refl _ _).drew h1)⟩
      · have hz : k = la.length := by omega
        have HZ := Lib.hid hz
        clear hz
        go_wp2
        go_ret
        have h1 := ht.out
        rw [List.take_of_length_le (by simp; have := HZ.out; omega), List.take_of_length_le (by simp; have := HZ.out; have := HL.out; omega)] at h1
        exact ⟨ret_bool (decide_eq_true h1).symm, hbw.out⟩
  · have hl1 : ((la.length : Int) != (lb.length : Int)) = true := by simp; omega
    have HL := Lib.hid hl
    clear hl
    go_enter Try.func96, Try.ntmps96
    go_wp2
    go_ret
    exact ⟨ret_bool (decide_eq_false (fun e => HL.out (by have := congrArg List.length e; simpa using this))).symm, Below.refl _ _⟩

end Go.Proofs.Ytfelhnchnaggmaa

/- Claims held against each other: the model's loop and Go's own. -/
namespace Go.Proofs.Ytfelhnchnaggmaa
open Go.ChangeShapes Go.WideShapes Go.ChangeAt Go.RowKit
set_option linter.unusedVariables false

set_option maxRecDepth 100000 in
theorem l3SameClaims (A B : Option Addr) (c d : Nat) (la lb : List Cl) (w : World) (hA : la.length ≤ maxLen) (hB : lb.length ≤ maxLen) (ha : RdC w A la) (hb : RdC w B lb) :
    Calls Try.prog 98 #[.slice A la.length c, .slice B lb.length d] w fun e w' => e = .returned (.bool (decide (la = lb))) ∧ ∃ m, w' = w.drewN m := by
  unfold maxLen at hA hB
  have HA := Lib.hid ha
  have HB := Lib.hid hb
  clear ha hb
  by_cases hl : la.length = lb.length
  · have hl1 : ((la.length : Int) != (lb.length : Int)) = false := by simp [hl]
    have HL := Lib.hid hl
    clear hl
    go_enter Try.func98, Try.ntmps98
    go_wp2
    go_loopw [5] (fun i wr => ∃ k m : Nat, k ≤ la.length ∧ i = .int .i64 k ∧ wr = w.drewN m ∧ Hid (la.take k = lb.take k)) (fun i _ => la.length - (intOf i).toNat)
    case atStart => exact ⟨0, 0, Nat.zero_le _, rfl, rfl, by simp [Hid]⟩
    case round =>
      obtain ⟨k, m, hk, rfl, rfl, ht⟩ := hrel
      by_cases hlt : k < la.length
      · have hltb : k < lb.length := by have := HL.out; omega
        obtain ⟨g, o, rfl, ca⟩ := HA.out k hlt
        obtain ⟨g', o', rfl, cb⟩ := HB.out k hltb
        obtain ⟨x, hx⟩ : ∃ x, x = la[k] := ⟨_, rfl⟩
        obtain ⟨y, hy⟩ : ∃ y, y = lb[k] := ⟨_, rfl⟩
        rw [← hx] at ca
        rw [← hy] at cb
        have HX := Lib.hid hx
        have HY := Lib.hid hy
        clear hx hy
        have a0 : w.cell? ⟨g, o + k * 7, none⟩ = some (.int .i64 x.s) := ca 0 _ rfl
        have a1 : w.cell? ⟨g, o + k * 7 + 1, none⟩ = some (.int .i64 x.v) := ca 1 _ rfl
        have a2 : w.cell? ⟨g, o + k * 7 + 2, none⟩ = some (.int .i64 x.r.c) := ca 2 _ rfl
        have a3 : w.cell? ⟨g, o + k * 7 + 3, none⟩ = some (.int .i64 x.r.n) := ca 3 _ rfl
        have a4 : w.cell? ⟨g, o + k * 7 + 4, none⟩ = some (.int .i64 x.r.o) := ca 4 _ rfl
        have a5 : w.cell? ⟨g, o + k * 7 + 5, none⟩ = some (.int .i64 x.r.x) := ca 5 _ rfl
        have a6 : w.cell? ⟨g, o + k * 7 + 6, none⟩ = some (.int .i64 x.r.y) := ca 6 _ rfl
        have b0 : w.cell? ⟨g', o' + k * 7, none⟩ = some (.int .i64 y.s) := cb 0 _ rfl
        have b1 : w.cell? ⟨g', o' + k * 7 + 1, none⟩ = some (.int .i64 y.v) := cb 1 _ rfl
        have b2 : w.cell? ⟨g', o' + k * 7 + 2, none⟩ = some (.int .i64 y.r.c) := cb 2 _ rfl
        have b3 : w.cell? ⟨g', o' + k * 7 + 3, none⟩ = some (.int .i64 y.r.n) := cb 3 _ rfl
        have b4 : w.cell? ⟨g', o' + k * 7 + 4, none⟩ = some (.int .i64 y.r.o) := cb 4 _ rfl
        have b5 : w.cell? ⟨g', o' + k * 7 + 5, none⟩ = some (.int .i64 y.r.x) := cb 5 _ rfl
        have b6 : w.cell? ⟨g', o' + k * 7 + 6, none⟩ = some (.int .i64 y.r.y) := cb 6 _ rfl
        clear ca cb
        have i0 : (0 : Int) ≤ (k : Int) := by omega
        have i1 : (k : Int) < (la.length : Int) := by omega
        have i2 : (k : Int) < (lb.length : Int) := by omega
        have hq := neqClaim x y
        rcases hxy : decide (x = y) with _ | _
        all_goals simp only [hxy] at hq
        · have HD := Lib.hid hxy
          clear hxy
          go_wp2_with (fail)
          go_quiet (fail)
          go_wp2
          go_ret
          exact ⟨ret_bool (decide_eq_false (ne_of_at hlt hltb (by rw [← HX.out, ← HY.out]; simpa using HD.out))).symm, m + nq, World.drewN_drewN ..⟩
        · have HD := Lib.hid hxy
          clear hxy
          go_wp2_with (fail)
          go_quiet (fail)
          go_wp2
          go_roundw
          case rel => exact ⟨k + 1, _, by omega, by go_num, rfl, take_step hlt hltb ht.out (by rw [← HX.out, ← HY.out]; simpa using HD.out)⟩
          case measure => simp [intOf]; omega
      · have hz : k = la.length := by omega
        have HZ := Lib.hid hz
        clear hz
        go_wp2
        go_ret
        have h1 := ht.out
        rw [HZ.out, List.take_length, HL.out, List.take_length] at h1
        exact ⟨ret_bool (decide_eq_true h1).symm, m, rfl⟩
  · have hl1 : ((la.length : Int) != (lb.length : Int)) = true := by simp; omega
    have HL := Lib.hid hl
    clear hl
    go_enter Try.func98, Try.ntmps98
    go_wp2
    go_ret
    exact ⟨ret_bool (decide_eq_false (fun e => HL.out (by rw [e]))).symm, 0, rfl⟩

set_option maxRecDepth 100000 in
theorem slEqual (A B : Option Addr) (c d : Nat) (la lb : List Cl) (w : World) (hA : la.length ≤ maxLen) (hB : lb.length ≤ maxLen) (ha : RdC w A la) (hb : RdC w B lb) :
    Calls Try.prog 72 #[.slice A la.length c, .slice B lb.length d] w fun e w' => e = .returned (.bool (decide (la = lb))) ∧ ∃ m, w' = w.drewN m := by
  unfold maxLen at hA hB
  have HA := Lib.hid ha
  have HB := Lib.hid hb
  clear ha hb
  by_cases hl : la.length = lb.length
  · have hl1 : ((la.length : Int) != (lb.length : Int)) = false := by simp [hl]
    have HL := Lib.hid hl
    clear hl
    go_enter Try.func72, Try.ntmps72
    go_wp2
    go_loopw [13] (fun i wr => ∃ k m : Nat, k ≤ la.length ∧ i = .int .i64 k ∧ wr = w.drewN m ∧ Hid (la.take k = lb.take k)) (fun i _ => la.length - (intOf i).toNat)
    case atStart => exact ⟨0, 0, Nat.zero_le _, rfl, rfl, by simp [Hid]⟩
    case round =>
      obtain ⟨k, m, hk, rfl, rfl, ht⟩ := hrel
      by_cases hlt : k < la.length
      · have hltb : k < lb.length := by have := HL.out; omega
        obtain ⟨g, o, rfl, ca⟩ := HA.out k hlt
        obtain ⟨g', o', rfl, cb⟩ := HB.out k hltb
        obtain ⟨x, hx⟩ : ∃ x, x = la[k] := ⟨_, rfl⟩
        obtain ⟨y, hy⟩ : ∃ y, y = lb[k] := ⟨_, rfl⟩
        rw [← hx] at ca
        rw [← hy] at cb
        have HX := Lib.hid hx
        have HY := Lib.hid hy
        clear hx hy
        have a0 : w.cell? ⟨g, o + k * 7, none⟩ = some (.int .i64 x.s) := ca 0 _ rfl
        have a1 : w.cell? ⟨g, o + k * 7 + 1, none⟩ = some (.int .i64 x.v) := ca 1 _ rfl
        have a2 : w.cell? ⟨g, o + k * 7 + 2, none⟩ = some (.int .i64 x.r.c) := ca 2 _ rfl
        have a3 : w.cell? ⟨g, o + k * 7 + 3, none⟩ = some (.int .i64 x.r.n) := ca 3 _ rfl
        have a4 : w.cell? ⟨g, o + k * 7 + 4, none⟩ = some (.int .i64 x.r.o) := ca 4 _ rfl
        have a5 : w.cell? ⟨g, o + k * 7 + 5, none⟩ = some (.int .i64 x.r.x) := ca 5 _ rfl
        have a6 : w.cell? ⟨g, o + k * 7 + 6, none⟩ = some (.int .i64 x.r.y) := ca 6 _ rfl
        have b0 : w.cell? ⟨g', o' + k * 7, none⟩ = some (.int .i64 y.s) := cb 0 _ rfl
        have b1 : w.cell? ⟨g', o' + k * 7 + 1, none⟩ = some (.int .i64 y.v) := cb 1 _ rfl
        have b2 : w.cell? ⟨g', o' + k * 7 + 2, none⟩ = some (.int .i64 y.r.c) := cb 2 _ rfl
        have b3 : w.cell? ⟨g', o' + k * 7 + 3, none⟩ = some (.int .i64 y.r.n) := cb 3 _ rfl
        have b4 : w.cell? ⟨g', o' + k * 7 + 4, none⟩ = some (.int .i64 y.r.o) := cb 4 _ rfl
        have b5 : w.cell? ⟨g', o' + k * 7 + 5, none⟩ = some (.int .i64 y.r.x) := cb 5 _ rfl
        have b6 : w.cell? ⟨g', o' + k * 7 + 6, none⟩ = some (.int .i64 y.r.y) := cb 6 _ rfl
        clear ca cb
        have i0 : (0 : Int) ≤ (k : Int) := by omega
        have i1 : (k : Int) < (la.length : Int) := by omega
        have i2 : (k : Int) < (lb.length : Int) := by omega
        have hq := neqClaim x y
        rcases hxy : decide (x = y) with _ | _
        all_goals simp only [hxy] at hq
        · have HD := Lib.hid hxy
          clear hxy
          go_wp2_with (fail)
          go_quiet (fail)
          go_wp2
          go_ret
          exact ⟨ret_bool (decide_eq_false (ne_of_at hlt hltb (by rw [← HX.out, ← HY.out]; simpa using HD.out))).symm, m + nq, World.drewN_drewN ..⟩
        · have HD := Lib.hid hxy
          clear hxy
          go_wp2_with (fail)
          go_quiet (fail)
          go_wp2
          go_roundw
          case rel => exact ⟨k + 1, _, by omega, by go_num, rfl, take_step hlt hltb ht.out (by rw [← HX.out, ← HY.out]; simpa using HD.out)⟩
          case measure => simp [intOf]; omega
      · have hz : k = la.length := by omega
        have HZ := Lib.hid hz
        clear hz
        go_wp2
        go_ret
        have h1 := ht.out
        rw [HZ.out, List.take_length, HL.out, List.take_length] at h1
        exact ⟨ret_bool (decide_eq_true h1).symm, m, rfl⟩
  · have hl1 : ((la.length : Int) != (lb.length : Int)) = true := by simp; omega
    have HL := Lib.hid hl
    clear hl
    go_enter Try.func72, Try.ntmps72
    go_wp2
    go_ret
    exact ⟨ret_bool (decide_eq_false (fun e => HL.out (by rw [e]))).symm, 0, rfl⟩

end Go.Proofs.Ytfelhnchnaggmaa

/- Votes held against each other. -/
namespace Go.Proofs.Ytfelhnchnaggmaa
open Go.ChangeShapes Go.WideShapes Go.ChangeAt Go.RowKit
set_option linter.unusedVariables false

set_option maxRecDepth 100000 in
theorem sameVote (p q : VtP) (w : World) (hp : p.rd w) (hq : q.rd w) :
    Calls Try.prog 74 #[p.val, q.val] w fun e w' => e = .returned (.bool (decide (p.vt = q.vt))) ∧ Below w.heap.size w w' := by
  obtain ⟨g, A, c, l⟩ := p
  obtain ⟨g', A', c', l'⟩ := q
  have z0 := Lib.hid (below_alloc2 w (.cells #[.int .i64 g, .slice A l.length c] 103) (.cells #[.int .i64 g', .slice A' l'.length c'] 103))
  have H1 := Lib.hid (hp.2.below z0.out)
  have H2 := Lib.hid (hq.2.below z0.out)
  have m1 : l.length ≤ maxLen := hp.1
  have m2 : l'.length ≤ maxLen := hq.1
  clear hp hq
  rcases h1 : (g == g') with _ | _
  · go_enter Try.func74, Try.ntmps74
    go_wp2
    go_light
    go_ret
    exact ⟨ret_bool (by simp_all [VtP.vt]), z0.out⟩
  · go_enter Try.func74, Try.ntmps74
    go_wp2_with (fail)
    refine (slEqual A A' c c' l l' _ m1 m2 H1.out H2.out).mono ?_
    rintro e w1 ⟨rfl, m, rfl⟩
    rcases he : decide (l = l') with _ | _
    all_goals go_wp2
    all_goals go_light
    all_goals go_ret
    all_goals exact ⟨ret_bool (by simp_all [VtP.vt]), Below.drewN z0.out _⟩
end Go.Proofs.Ytfelhnchnaggmaa

/- Votes held against each other, list by list. -/
namespace Go.Proofs.Ytfelhnchnaggmaa
open Go.ChangeShapes Go.WideShapes Go.ChangeAt Go.RowKit
set_option linter.unusedVariables false

set_option maxRecDepth 100000 in
theorem l3SameVotes (A B : Option Addr) (c d : Nat) (la lb : List VtP) (w : World) (hA : la.length ≤ maxLen) (hB : lb.length ≤ maxLen) (ha : RdV w A la) (hb : RdV w B lb) :
    Calls Try.prog 99 #[.slice A la.length c, .slice B lb.length d] w fun e w' => e = .returned (.bool (decide (la.map VtP.vt = lb.map VtP.vt))) ∧ Below w.heap.size w w' := by
  unfold maxLen at hA hB
  have HA := Lib.hid ha
  have HB := Lib.hid hb
  clear ha hb
  by_cases hl : la.length = lb.length
  · have hl1 : ((la.length : Int) != (lb.length : Int)) = false := by simp [hl]
    have HL := Lib.hid hl
    clear hl
    go_enter Try.func99, Try.ntmps99
    go_wp2
    go_loopw [5] (fun i wr => ∃ k : Nat, k ≤ la.length ∧ i = .int .i64 k ∧ Hid (Below w.heap.size w wr) ∧ Hid ((la.map VtP.vt).take k = (lb.map VtP.vt).take k)) (fun i _ => la.length - (intOf i).toNat)
    case atStart => exact ⟨0, Nat.zero_le _, rfl, Below.refl _ _, by simp [Hid]⟩
    case round =>
      obtain ⟨k, hk, rfl, hbw, ht⟩ := hrel
      by_cases hlt : k < la.length
      · have hltb : k < lb.length := by have := HL.out; omega
        obtain ⟨g, o, rfl, ca⟩ := Rd.below HA.out.1 hbw.out k hlt
        obtain ⟨g', o', rfl, cb⟩ := Rd.below HB.out.1 hbw.out k hltb
        have rx := (HA.out.2 la[k] (List.getElem_mem hlt)).below hbw.out
        have ry := (HB.out.2 lb[k] (List.getElem_mem hltb)).below hbw.out
        obtain ⟨x, hx⟩ : ∃ x, x = la[k] := ⟨_, rfl⟩
        obtain ⟨y, hy⟩ : ∃ y, y = lb[k] := ⟨_, rfl⟩
        rw [← hx] at ca rx
        rw [← hy] at cb ry
        have HX := Lib.hid hx
        have HY := Lib.hid hy
        have RX := Lib.hid rx
        have RY := Lib.hid ry
        have mx : x.cl.length ≤ maxLen := rx.1
        have my : y.cl.length ≤ maxLen := ry.1
        clear hx hy rx ry
        have a0 : wr.cell? ⟨g, o + k * 2, none⟩ = some (.int .i64 x.f) := ca 0 _ rfl
        have a1 : wr.cell? ⟨g, o + k * 2 + 1, none⟩ = some (.slice x.A x.cl.length x.c) := ca 1 _ rfl
        have b0 : wr.cell? ⟨g', o' + k * 2, none⟩ = some (.int .i64 y.f) := cb 0 _ rfl
        have b1 : wr.cell? ⟨g', o' + k * 2 + 1, none⟩ = some (.slice y.A y.cl.length y.c) := cb 1 _ rfl
        clear ca cb
        have i0 : (0 : Int) ≤ (k : Int) := by omega
        have i1 : (k : Int) < (la.length : Int) := by omega
        have i2 : (k : Int) < (lb.length : Int) := by omega
        rcases hf : (x.f != y.f) with _ | _
        · rcases hc : decide (x.cl = y.cl) with _ | _
          · have HC := Lib.hid hc
            have HE : Hid (VtP.vt x ≠ VtP.vt y) := fun e => by simp [VtP.vt] at e; simp [e.2] at hc
            clear hc
            go_wp2_with (fail)
            go_quiet ((go_at_call 98; exact Calls.quiet_of ((l3SameClaims _ _ _ _ x.cl y.cl _ mx my (RX.out.2.below (Below.drewN (Below.refl _ _) _)) (RY.out.2.below (Below.drewN (Below.refl _ _) _))).mono fun _ _ ⟨he, hw⟩ => ⟨he.trans (ret_bool HC.out), hw⟩)))
            go_wp2
            go_ret
            exact ⟨ret_bool (decide_eq_false (map_ne_of_at hlt hltb (by rw [← HX.out, ← HY.out]; exact HE.out))).symm, Below.drewN hbw.out _⟩
          · have HC := Lib.hid hc
            have HE : Hid (VtP.vt x = VtP.vt y) := by simp only [Hid, VtP.vt, Vt.mk.injEq]; exact ⟨by simpa using hf, by simpa using hc⟩
            clear hc
            go_wp2_with (fail)
            go_quiet ((go_at_call 98; exact Calls.quiet_of ((l3SameClaims _ _ _ _ x.cl y.cl _ mx my (RX.out.2.below (Below.drewN (Below.refl _ _) _)) (RY.out.2.below (Below.drewN (Below.refl _ _) _))).mono fun _ _ ⟨he, hw⟩ => ⟨he.trans (ret_bool HC.out), hw⟩)))
            go_wp2
            go_roundw
            case rel => exact ⟨k + 1, by omega, by go_num, Below.drewN hbw.out _, map_take_step hlt hltb ht.out (by rw [← HX.out, ← HY.out]; exact HE.out)⟩
            case measure => simp [intOf]; omega
        · have HE : Hid (VtP.vt x ≠ VtP.vt y) := fun e => by simp [VtP.vt] at e; simp [e.1] at hf
          go_wp2_with (fail)
          go_quiet (fail)
          go_wp2
          go_ret
          exact ⟨ret_bool (decide_eq_false (map_ne_of_at hlt hltb (by rw [← HX.out, ← HY.out]; exact HE.out))).symm, Below.drewN hbw.out _⟩
      · have hz : k = la.length := by omega
        have HZ := Lib.hid hz
        clear hz
        go_wp2
        go_ret
        have h1 := ht.out
        rw [List.take_of_length_le (by simp; have := HZ.out; omega), List.take_of_length_le (by simp; have := HZ.out; have := HL.out; omega)] at h1
        exact ⟨ret_bool (decide_eq_true h1).symm, hbw.out⟩
  · have hl1 : ((la.length : Int) != (lb.length : Int)) = true := by simp; omega
    have HL := Lib.hid hl
    clear hl
    go_enter Try.func99, Try.ntmps99
    go_wp2
    go_ret
    exact ⟨ret_bool (decide_eq_false (fun e => HL.out (by have := congrArg List.length e; simpa using this))).symm, Below.refl _ _⟩

end Go.Proofs.Ytfelhnchnaggmaa

/- Letters held against each other: the model's way. -/
namespace Go.Proofs.Ytfelhnchnaggmaa
open Go.ChangeShapes Go.WideShapes Go.ChangeAt Go.RowKit
set_option linter.unusedVariables false

set_option maxRecDepth 100000 in
set_option maxHeartbeats 2000000 in
theorem l3Same (p q : MgP) (w : World) (hp : p.rd w) (hq : q.rd w) :
    Calls Try.prog 75 #[p.val, q.val] w fun e w' => e = .returned (.bool (decide (p.mg = q.mg))) ∧ Below w.heap.size w w' := by
  have z0 := Lib.hid (below_alloc2 w (.cells #[.int .i64 p.k, .int .i64 p.f, .int .i64 p.v, .int .i64 p.s, .int .i64 p.r.c, .int .i64 p.r.n, .int .i64 p.r.o, .int .i64 p.r.x, .int .i64 p.r.y, .slice p.A p.cl.length p.a, .slice p.B p.vt.length p.b] 72) (.cells #[.int .i64 q.k, .int .i64 q.f, .int .i64 q.v, .int .i64 q.s, .int .i64 q.r.c, .int .i64 q.r.n, .int .i64 q.r.o, .int .i64 q.r.x, .int .i64 q.r.y, .slice q.A q.cl.length q.a, .slice q.B q.vt.length q.b] 72))
  obtain ⟨m1, m2, r1, r2⟩ := hp.below z0.out
  obtain ⟨n1, n2, s1, s2⟩ := hq.below z0.out
  have R1 := Lib.hid r1
  have R2 := Lib.hid r2
  have S1 := Lib.hid s1
  have S2 := Lib.hid s2
  clear hp hq r1 r2 s1 s2
  rcases h1 : (p.k == q.k) with _ | _
  · go_enter Try.func75, Try.ntmps75
    go_wp2
    go_light
    go_ret
    exact ⟨ret_bool (by simp_all [MgP.mg]), z0.out⟩
  rcases h2 : (p.f == q.f) with _ | _
  · go_enter Try.func75, Try.ntmps75
    go_wp2
    go_light
    go_ret
    exact ⟨ret_bool (by simp_all [MgP.mg]), z0.out⟩
  rcases h3 : (p.v == q.v) with _ | _
  · go_enter Try.func75, Try.ntmps75
    go_wp2
    go_light
    go_ret
    exact ⟨ret_bool (by simp_all [MgP.mg]), z0.out⟩
  rcases h4 : (p.s == q.s) with _ | _
  · go_enter Try.func75, Try.ntmps75
    go_wp2
    go_light
    go_ret
    exact ⟨ret_bool (by simp_all [MgP.mg]), z0.out⟩
  have hr : ∀ W, (binOp .eql 69 (.agg #[.int .i64 p.r.c, .int .i64 p.r.n, .int .i64 p.r.o, .int .i64 p.r.x, .int .i64 p.r.y]) (.agg #[.int .i64 q.r.c, .int .i64 q.r.n, .int .i64 q.r.o, .int .i64 q.r.x, .int .i64 q.r.y])).run Try.prog W = .ok (.bool (decide (p.r = q.r))) W := fun W => eqlReq p.r q.r W
  rcases h5 : decide (p.r = q.r) with _ | _
  all_goals simp only [h5] at hr
  · go_enter Try.func75, Try.ntmps75
    go_wp2
    go_light
    go_ret
    exact ⟨ret_bool (by simp_all [MgP.mg]), z0.out⟩
  go_enter Try.func75, Try.ntmps75
  go_wp2_with (fail)
  refine (l3SameClaims p.A q.A p.a q.a p.cl q.cl _ m1 n1 R1.out S1.out).mono ?_
  rintro e w1 ⟨rfl, m, rfl⟩
  rcases h6 : decide (p.cl = q.cl) with _ | _
  · go_wp2
    go_light
    go_ret
    exact ⟨ret_bool (by simp_all [MgP.mg]), Below.drewN z0.out _⟩
  go_wp2_with (fail)
  refine (l3SameVotes p.B q.B p.b q.b p.vt q.vt _ m2 n2 (R2.out.below (Below.drewN (Below.refl _ _) _)) (S2.out.below (Below.drewN (Below.refl _ _) _))).mono ?_
  rintro e w2 ⟨rfl, h7⟩
  have B2 := Lib.hid (Below.and (Below.drewN z0.out m) h7)
  rcases h8 : decide (p.vt.map VtP.vt = q.vt.map VtP.vt) with _ | _
  all_goals go_wp2
  all_goals go_light
  all_goals go_ret
  all_goals exact ⟨ret_bool (by simp_all [MgP.mg]), B2.out⟩
end Go.Proofs.Ytfelhnchnaggmaa

/- Votes held against each other by Go's own EqualFunc. -/
namespace Go.Proofs.Ytfelhnchnaggmaa
open Go.ChangeShapes Go.WideShapes Go.ChangeAt Go.RowKit
set_option linter.unusedVariables false

set_option maxRecDepth 100000 in
theorem slEqualFunc (A B : Option Addr) (c d : Nat) (la lb : List VtP) (w : World) (hA : la.length ≤ maxLen) (hB : lb.length ≤ maxLen) (ha : RdV w A la) (hb : RdV w B lb) :
    Calls Try.prog 73 #[.slice A la.length c, .slice B lb.length d, .func (.func 74) #[] #[]] w fun e w' => e = .returned (.bool (decide (la.map VtP.vt = lb.map VtP.vt))) ∧ Below w.heap.size w w' := by
  unfold maxLen at hA hB
  have HA := Lib.hid ha
  have HB := Lib.hid hb
  clear ha hb
  by_cases hl : la.length = lb.length
  · have hl1 : ((la.length : Int) != (lb.length : Int)) = false := by simp [hl]
    have HL := Lib.hid hl
    clear hl
    go_enter Try.func73, Try.ntmps73
    go_wp2
    go_loopw [17] (fun i wr => ∃ k : Nat, k ≤ la.length ∧ i = .int .i64 k ∧ Hid (Below w.heap.size w wr) ∧ Hid ((la.map VtP.vt).take k = (lb.map VtP.vt).take k)) (fun i _ => la.length - (intOf i).toNat)
    case atStart => exact ⟨0, Nat.zero_le _, rfl, Below.refl _ _, by simp [Hid]⟩
    case round =>
      obtain ⟨k, hk, rfl, hbw, ht⟩ := hrel
      by_cases hlt : k < la.length
      · have hltb : k < lb.length := by have := HL.out; omega
        obtain ⟨g, o, rfl, ca⟩ := Rd.below HA.out.1 hbw.out k hlt
        obtain ⟨g', o', rfl, cb⟩ := Rd.below HB.out.1 hbw.out k hltb
        have rx := (HA.out.2 la[k] (List.getElem_mem hlt)).below hbw.out
        have ry := (HB.out.2 lb[k] (List.getElem_mem hltb)).below hbw.out
        obtain ⟨x, hx⟩ : ∃ x, x = la[k] := ⟨_, rfl⟩
        obtain ⟨y, hy⟩ : ∃ y, y = lb[k] := ⟨_, rfl⟩
        rw [← hx] at ca rx
        rw [← hy] at cb ry
        have HX := Lib.hid hx
        have HY := Lib.hid hy
        have RX := Lib.hid rx
        have RY := Lib.hid ry
        have mx : x.cl.length ≤ maxLen := rx.1
        have my : y.cl.length ≤ maxLen := ry.1
        clear hx hy rx ry
        have a0 : wr.cell? ⟨g, o + k * 2, none⟩ = some (.int .i64 x.f) := ca 0 _ rfl
        have a1 : wr.cell? ⟨g, o + k * 2 + 1, none⟩ = some (.slice x.A x.cl.length x.c) := ca 1 _ rfl
        have b0 : wr.cell? ⟨g', o' + k * 2, none⟩ = some (.int .i64 y.f) := cb 0 _ rfl
        have b1 : wr.cell? ⟨g', o' + k * 2 + 1, none⟩ = some (.slice y.A y.cl.length y.c) := cb 1 _ rfl
        clear ca cb
        have i0 : (0 : Int) ≤ (k : Int) := by omega
        have i1 : (k : Int) < (la.length : Int) := by omega
        have i2 : (k : Int) < (lb.length : Int) := by omega
        have z1 := (Below.refl wr.heap.size wr).alloc (Nat.le_refl _) (.cells #[.int .i64 x.f, .slice x.A x.cl.length x.c] 103)
        have c0 := cell_kept z1 b0
        have c1 := cell_kept z1 b1
        have z2 := Lib.hid (below_alloc2 wr (.cells #[.int .i64 x.f, .slice x.A x.cl.length x.c] 103) (.cells #[.int .i64 y.f, .slice y.A y.cl.length y.c] 103))
        clear z1 b0 b1
        go_wp2_with (fail)
        refine (sameVote x y _ (RX.out.below z2.out) (RY.out.below z2.out)).mono ?_
        rintro e w1 ⟨rfl, h1⟩
        have BB := Lib.hid (Below.and (Below.and hbw.out z2.out) h1)
        rcases hc : decide (VtP.vt x = VtP.vt y) with _ | _
        · have HE : Hid (VtP.vt x ≠ VtP.vt y) := by simpa [Hid] using hc
          clear hc h1
          go_wp2
          go_ret
          exact ⟨ret_bool (decide_eq_false (map_ne_of_at hlt hltb (by rw [← HX.out, ← HY.out]; exact HE.out))).symm, BB.out⟩
        · have HE : Hid (VtP.vt x = VtP.vt y) := by simpa [Hid] using hc
          clear hc h1
          go_wp2
          go_roundw
          case rel => exact ⟨k + 1, by omega, by go_num, BB.out, map_take_step hlt hltb ht.out (by rw [← HX.out, ← HY.out]; exact HE.out)⟩
          case measure => simp [intOf]; omega
      · have hz : k = la.length := by omega
        have HZ := Lib.hid hz
        clear hz
        go_wp2
        go_ret
        have h1 := ht.out
        rw [List.take_of_length_le (by simp; have := HZ.out; omega), List.take_of_length_le (by simp; have := HZ.out; have := HL.out; omega)] at h1
        exact ⟨ret_bool (decide_eq_true h1).symm, hbw.out⟩
  · have hl1 : ((la.length : Int) != (lb.length : Int)) = true := by simp; omega
    have HL := Lib.hid hl
    clear hl
    go_enter Try.func73, Try.ntmps73
    go_wp2
    go_ret
    exact ⟨ret_bool (decide_eq_false (fun e => HL.out (by have := congrArg List.length e; simpa using this))).symm, Below.refl _ _⟩

end Go.Proofs.Ytfelhnchnaggmaa
