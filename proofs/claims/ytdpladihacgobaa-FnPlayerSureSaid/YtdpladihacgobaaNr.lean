/- Answers held against each other; players that read alike. -/
import Derived.Test.YtdpladihacgobaaNk
import Derived.Test.YtdpladihacgobaaME
import Derived.Laws.StructEq
namespace Go.Proofs.Ytdpladihacgobaa
open Go.ChangeShapes Go.WideShapes Go.ChangeAt Go.RowKit
set_option linter.unusedVariables false
set_option linter.unusedSimpArgs false

theorem lenOfReply {α : Type} (l : List α) (h : l.length = 4) : ∃ a1 a2 a3 a4, l = [a1, a2, a3, a4] :=
  match l, h with
  | [a1, a2, a3, a4], _ => ⟨a1, a2, a3, a4, rfl⟩
set_option maxRecDepth 100000 in
theorem fieldsReply (d : Nat) (a b : Rp) (w : World) (xs ys : Array Value) (hx : xs = a.cells.toArray) (hy : ys = b.cells.toArray) : (Op.eqFields (d + 1) xs ys (Try.prog.fieldsOf 29).toList).run Try.prog w = .ok (decide (a = b)) w := by
  obtain ⟨a1, a2, a3, a4⟩ := a
  obtain ⟨b1, b2, b3, b4⟩ := b
  subst hx hy
  have hf : (Try.prog.fieldsOf 29).toList.map (fun f => (f.name, f.type, f.offset)) = [("From", 3, 0), ("Num", 3, 1), ("Code", 3, 2), ("Sum", 3, 3)] := by kernel_rfl
  generalize (Try.prog.fieldsOf 29).toList = fs at hf ⊢
  obtain ⟨f1, f2, f3, f4, rfl⟩ := lenOfReply fs (by have := congrArg List.length hf; simpa using this)
  simp only [List.map_cons, List.map_nil, List.cons.injEq, Prod.mk.injEq, and_true] at hf
  obtain ⟨⟨n1, t1, o1⟩, ⟨n2, t2, o2⟩, ⟨n3, t3, o3⟩, ⟨n4, t4, o4⟩⟩ := hf
  simp [Op.eqFields, n1, t1, o1, n2, t2, o2, n3, t3, o3, n4, t4, o4, Rp.cells, go_sem]
  repeat' split
  all_goals simp_all
theorem eqlReply (a b : Rp) (w : World) : (binOp .eql 29 (.agg #[.int .i64 a.f, .int .i64 a.n, .int .i64 a.c, .int .i64 a.s]) (.agg #[.int .i64 b.f, .int .i64 b.n, .int .i64 b.c, .int .i64 b.s])).run Try.prog w = .ok (.bool (decide (a = b))) w := by
  rw [run_eql_struct, run_equalIn_struct _ _ _ _ _ (by kernel_rfl) (by kernel_rfl), fieldsReply 9998 a b w #[.int .i64 a.f, .int .i64 a.n, .int .i64 a.c, .int .i64 a.s] #[.int .i64 b.f, .int .i64 b.n, .int .i64 b.c, .int .i64 b.s] rfl rfl]
  rfl
theorem neqReply (a b : Rp) (w : World) : (binOp .neq 29 (.agg #[.int .i64 a.f, .int .i64 a.n, .int .i64 a.c, .int .i64 a.s]) (.agg #[.int .i64 b.f, .int .i64 b.n, .int .i64 b.c, .int .i64 b.s])).run Try.prog w = .ok (.bool (!decide (a = b))) w := by
  rw [run_neq_struct, run_equalIn_struct _ _ _ _ _ (by kernel_rfl) (by kernel_rfl), fieldsReply 9998 a b w #[.int .i64 a.f, .int .i64 a.n, .int .i64 a.c, .int .i64 a.s] #[.int .i64 b.f, .int .i64 b.n, .int .i64 b.c, .int .i64 b.s] rfl rfl]
  rfl

set_option maxRecDepth 100000 in
set_option maxHeartbeats 4000000 in
theorem wpPlayer_rd (q : Rq) (A B : Option Addr) (a b : Nat) (L : List Rp) (w : World) (hL : L.length ≤ 2097152) (rA : Rd 4 Rp.cells w A L) (rB : Rd 4 Rp.cells w B L) :
    Calls Try.prog 13 #[playerV q A L.length a, playerV q B L.length b] w fun e w' => e = .returned (.bool true) ∧ Below w.heap.size w w' := by
  have z0 : Below w.heap.size w ((w.alloc (.cells #[.int .i64 q.c, .int .i64 q.n, .int .i64 q.o, .int .i64 q.x, .int .i64 q.y, .slice A L.length a] 27)).alloc (.cells #[.int .i64 q.c, .int .i64 q.n, .int .i64 q.o, .int .i64 q.x, .int .i64 q.y, .slice B L.length b] 27)) := below_alloc2 w _ _
  have K0 : Hid (Bkk ((w.alloc (.cells #[.int .i64 q.c, .int .i64 q.n, .int .i64 q.o, .int .i64 q.x, .int .i64 q.y, .slice A L.length a] 27)).alloc (.cells #[.int .i64 q.c, .int .i64 q.n, .int .i64 q.o, .int .i64 q.x, .int .i64 q.y, .slice B L.length b] 27)) w.heap.size 27 #[.int .i64 q.c, .int .i64 q.n, .int .i64 q.o, .int .i64 q.x, .int .i64 q.y, .slice A L.length a]) := (Bkk.new (cs := #[.int .i64 q.c, .int .i64 q.n, .int .i64 q.o, .int .i64 q.x, .int .i64 q.y, .slice A L.length a]) (t := 27) w).alloc _
  have K1 : Hid (Bkk ((w.alloc (.cells #[.int .i64 q.c, .int .i64 q.n, .int .i64 q.o, .int .i64 q.x, .int .i64 q.y, .slice A L.length a] 27)).alloc (.cells #[.int .i64 q.c, .int .i64 q.n, .int .i64 q.o, .int .i64 q.x, .int .i64 q.y, .slice B L.length b] 27)) (w.heap.size + 1) 27 #[.int .i64 q.c, .int .i64 q.n, .int .i64 q.o, .int .i64 q.x, .int .i64 q.y, .slice B L.length b]) := by have := Bkk.new (cs := #[.int .i64 q.c, .int .i64 q.n, .int .i64 q.o, .int .i64 q.x, .int .i64 q.y, .slice B L.length b]) (t := 27) (w.alloc (.cells #[.int .i64 q.c, .int .i64 q.n, .int .i64 q.o, .int .i64 q.x, .int .i64 q.y, .slice A L.length a] 27)); simpa [Hid] using this
  have H1 := Lib.hid (Rd.below rA z0)
  have H2 := Lib.hid (Rd.below rB z0)
  have Z := Lib.hid z0
  have nl : ((L.length : Int) != (L.length : Int)) = false := by simp
  clear rA rB z0
  go_enter Try.func13, Try.ntmps13
  go_upto_region 1 with (fail)
  obtain ⟨w0, hw0⟩ : ∃ X, X = ((w.alloc (.cells #[.int .i64 q.c, .int .i64 q.n, .int .i64 q.o, .int .i64 q.x, .int .i64 q.y, .slice A L.length a] 27)).alloc (.cells #[.int .i64 q.c, .int .i64 q.n, .int .i64 q.o, .int .i64 q.x, .int .i64 q.y, .slice B L.length b] 27)) := ⟨_, rfl⟩
  rw [← hw0] at K0 K1 H1 H2 Z ⊢
  clear hw0
  have p0 : w0.cell? ⟨w.heap.size, 0, none⟩ = some (.int .i64 q.c) := K0.out.cell 0
  have p1 : w0.cell? ⟨w.heap.size, 1, none⟩ = some (.int .i64 q.n) := K0.out.cell 1
  have p2 : w0.cell? ⟨w.heap.size, 2, none⟩ = some (.int .i64 q.o) := K0.out.cell 2
  have p3 : w0.cell? ⟨w.heap.size, 3, none⟩ = some (.int .i64 q.x) := K0.out.cell 3
  have p4 : w0.cell? ⟨w.heap.size, 4, none⟩ = some (.int .i64 q.y) := K0.out.cell 4
  have p5 : w0.cell? ⟨w.heap.size, 5, none⟩ = some (.slice A L.length a) := K0.out.cell 5
  have q0 : w0.cell? ⟨w.heap.size + 1, 0, none⟩ = some (.int .i64 q.c) := K1.out.cell 0
  have q1 : w0.cell? ⟨w.heap.size + 1, 1, none⟩ = some (.int .i64 q.n) := K1.out.cell 1
  have q2 : w0.cell? ⟨w.heap.size + 1, 2, none⟩ = some (.int .i64 q.o) := K1.out.cell 2
  have q3 : w0.cell? ⟨w.heap.size + 1, 3, none⟩ = some (.int .i64 q.x) := K1.out.cell 3
  have q4 : w0.cell? ⟨w.heap.size + 1, 4, none⟩ = some (.int .i64 q.y) := K1.out.cell 4
  have q5 : w0.cell? ⟨w.heap.size + 1, 5, none⟩ = some (.slice B L.length b) := K1.out.cell 5
  have hq : ∀ W, (binOp .neq 24 (.agg #[.int .i64 q.c, .int .i64 q.n, .int .i64 q.o, .int .i64 q.x, .int .i64 q.y]) (.agg #[.int .i64 q.c, .int .i64 q.n, .int .i64 q.o, .int .i64 q.x, .int .i64 q.y])).run Try.prog W = .ok (.bool false) W := fun W => by have := neqReq q q W; simpa using this
  go_wp2
  clear hq p0 p1 p2 p3 p4 p5 q0 q1 q2 q3 q4 q5
  go_loopw [5] (fun v wr => ∃ j : Nat, j ≤ L.length ∧ v = .int .i64 (j : Int) ∧ Hid (Below w0.heap.size w0 wr)) (fun v _ => L.length - (intOf v).toNat)
  case atStart => exact ⟨0, Nat.zero_le _, rfl, Below.refl _ _⟩
  case round =>
    obtain ⟨j, hj, rfl, hB⟩ := hrel
    have K0 := Lib.hid (K0.out.below hB.out)
    have K1 := Lib.hid (K1.out.below hB.out)
    have p0 : wr.cell? ⟨w.heap.size, 0, none⟩ = some (.int .i64 q.c) := K0.out.cell 0
    have p1 : wr.cell? ⟨w.heap.size, 1, none⟩ = some (.int .i64 q.n) := K0.out.cell 1
    have p2 : wr.cell? ⟨w.heap.size, 2, none⟩ = some (.int .i64 q.o) := K0.out.cell 2
    have p3 : wr.cell? ⟨w.heap.size, 3, none⟩ = some (.int .i64 q.x) := K0.out.cell 3
    have p4 : wr.cell? ⟨w.heap.size, 4, none⟩ = some (.int .i64 q.y) := K0.out.cell 4
    have p5 : wr.cell? ⟨w.heap.size, 5, none⟩ = some (.slice A L.length a) := K0.out.cell 5
    have q0 : wr.cell? ⟨w.heap.size + 1, 0, none⟩ = some (.int .i64 q.c) := K1.out.cell 0
    have q1 : wr.cell? ⟨w.heap.size + 1, 1, none⟩ = some (.int .i64 q.n) := K1.out.cell 1
    have q2 : wr.cell? ⟨w.heap.size + 1, 2, none⟩ = some (.int .i64 q.o) := K1.out.cell 2
    have q3 : wr.cell? ⟨w.heap.size + 1, 3, none⟩ = some (.int .i64 q.x) := K1.out.cell 3
    have q4 : wr.cell? ⟨w.heap.size + 1, 4, none⟩ = some (.int .i64 q.y) := K1.out.cell 4
    have q5 : wr.cell? ⟨w.heap.size + 1, 5, none⟩ = some (.slice B L.length b) := K1.out.cell 5
    have l0 := K0.out.lt
    have l1 := K1.out.lt
    by_cases hlt : j < L.length
    · obtain ⟨g, o, hgo, ca⟩ := Rd.below H1.out hB.out j hlt
      obtain ⟨g', o', hgo', cb⟩ := Rd.below H2.out hB.out j hlt
      subst hgo hgo'
      generalize L[j] = x at ca cb
      have xr0 : wr.cell? ⟨g, o + j * 4, none⟩ = some (.int .i64 x.f) := ca 0 _ rfl
      have xr1 : wr.cell? ⟨g, o + j * 4 + 1, none⟩ = some (.int .i64 x.n) := ca 1 _ rfl
      have xr2 : wr.cell? ⟨g, o + j * 4 + 2, none⟩ = some (.int .i64 x.c) := ca 2 _ rfl
      have xr3 : wr.cell? ⟨g, o + j * 4 + 3, none⟩ = some (.int .i64 x.s) := ca 3 _ rfl
      have yr0 : wr.cell? ⟨g', o' + j * 4, none⟩ = some (.int .i64 x.f) := cb 0 _ rfl
      have yr1 : wr.cell? ⟨g', o' + j * 4 + 1, none⟩ = some (.int .i64 x.n) := cb 1 _ rfl
      have yr2 : wr.cell? ⟨g', o' + j * 4 + 2, none⟩ = some (.int .i64 x.c) := cb 2 _ rfl
      have yr3 : wr.cell? ⟨g', o' + j * 4 + 3, none⟩ = some (.int .i64 x.s) := cb 3 _ rfl
      clear ca cb
      have lx : g < wr.heap.size := World.block_lt_of_cell? wr _ xr0
      have ly : g' < wr.heap.size := World.block_lt_of_cell? wr _ yr0
      have i0 : (0 : Int) ≤ (j : Int) := by omega
      have i1 : (j : Int) < (L.length : Int) := by omega
      have hq : ∀ W, (binOp .neq 29 (.agg #[.int .i64 x.f, .int .i64 x.n, .int .i64 x.c, .int .i64 x.s]) (.agg #[.int .i64 x.f, .int .i64 x.n, .int .i64 x.c, .int .i64 x.s])).run Try.prog W = .ok (.bool false) W := fun W => by have := neqReply x x W; simpa using this
      go_upto_region 6 with (fail)
      refine wp_region_held_drew (S := fun w1 => Below wr.heap.size wr w1) (by kernel_rfl) ((Below.refl _ _).drew) (fun hq => ?_)
      refine takeD 0 27 (v := ?_) rfl rfl (by kernel_rfl) (by kernel_rfl) (by kernel_rfl) (fun _ _ _ h => h) (Or.inl ⟨by rfl, ?_⟩) (by assumption) ?_
      rotate_left
      · intro w1 hSw; obtain ⟨hcS, hfS⟩ := bcell hSw; go_simp; (try with_reducible rfl)
      (try simp only [Act.put, List.setIfInBounds_toArray, List.set_cons_zero, List.set_cons_succ])
      refine takeD 1 28 (v := ?_) rfl rfl (by kernel_rfl) (by kernel_rfl) (by kernel_rfl) (fun _ _ _ h => h) (Or.inl ⟨by rfl, ?_⟩) (by assumption) ?_
      rotate_left
      · intro w1 hSw; obtain ⟨hcS, hfS⟩ := bcell hSw; go_simp; (try with_reducible rfl)
      (try simp only [Act.put, List.setIfInBounds_toArray, List.set_cons_zero, List.set_cons_succ])
      refine takeD 2 29 (v := ?_) rfl rfl (by kernel_rfl) (by kernel_rfl) (by kernel_rfl) (fun _ _ _ h => h) (Or.inl ⟨by rfl, ?_⟩) (by assumption) ?_
      rotate_left
      · intro w1 hSw; obtain ⟨hcS, hfS⟩ := bcell hSw; go_simp; (try with_reducible rfl)
      (try simp only [Act.put, List.setIfInBounds_toArray, List.set_cons_zero, List.set_cons_succ])
      refine takeD 3 30 (v := ?_) rfl rfl (by kernel_rfl) (by kernel_rfl) (by kernel_rfl) (fun _ _ _ h => h) (Or.inl ⟨by rfl, ?_⟩) (by assumption) ?_
      rotate_left
      · intro w1 hSw; obtain ⟨hcS, hfS⟩ := bcell hSw; go_simp; (try with_reducible rfl)
      (try simp only [Act.put, List.setIfInBounds_toArray, List.set_cons_zero, List.set_cons_succ])
      refine takeD 4 31 (v := ?_) rfl rfl (by kernel_rfl) (by kernel_rfl) (by kernel_rfl) (fun _ _ _ h => h) (Or.inl ⟨by rfl, ?_⟩) (by assumption) ?_
      rotate_left
      · intro w1 hSw; obtain ⟨hcS, hfS⟩ := bcell hSw; go_simp; (try with_reducible rfl)
      (try simp only [Act.put, List.setIfInBounds_toArray, List.set_cons_zero, List.set_cons_succ])
      refine takeD 5 32 (v := ?_) rfl rfl (by kernel_rfl) (by kernel_rfl) (by kernel_rfl) (fun _ _ _ h => h) (Or.inl ⟨by rfl, ?_⟩) (by assumption) ?_
      rotate_left
      · intro w1 hSw; obtain ⟨hcS, hfS⟩ := bcell hSw; go_simp; (try with_reducible rfl)
      (try simp only [Act.put, List.setIfInBounds_toArray, List.set_cons_zero, List.set_cons_succ])
      refine takeD 6 33 (v := ?_) rfl rfl (by kernel_rfl) (by kernel_rfl) (by kernel_rfl) (fun _ _ _ h => h) (Or.inl ⟨by rfl, ?_⟩) (by assumption) ?_
      rotate_left
      · intro w1 hSw; obtain ⟨hcS, hfS⟩ := bcell hSw; go_simp; (try with_reducible rfl)
      (try simp only [Act.put, List.setIfInBounds_toArray, List.set_cons_zero, List.set_cons_succ])
      refine takeD 7 34 (v := ?_) rfl rfl (by kernel_rfl) (by kernel_rfl) (by kernel_rfl) (fun _ _ _ h => h) (Or.inl ⟨by rfl, ?_⟩) (by assumption) ?_
      rotate_left
      · intro w1 hSw; obtain ⟨hcS, hfS⟩ := bcell hSw; go_simp; (try with_reducible rfl)
      (try simp only [Act.put, List.setIfInBounds_toArray, List.set_cons_zero, List.set_cons_succ])
      refine takeD 8 35 (v := ?_) rfl rfl (by kernel_rfl) (by kernel_rfl) (by kernel_rfl) (fun _ _ _ h => h) (Or.inl ⟨by rfl, ?_⟩) (by assumption) ?_
      rotate_left
      · intro w1 hSw; obtain ⟨hcS, hfS⟩ := bcell hSw; go_simp; (try with_reducible rfl)
      (try simp only [Act.put, List.setIfInBounds_toArray, List.set_cons_zero, List.set_cons_succ])
      refine takeD 9 36 (v := ?_) rfl rfl (by kernel_rfl) (by kernel_rfl) (by kernel_rfl) (fun _ _ _ h => h) (Or.inl ⟨by rfl, ?_⟩) (by assumption) ?_
      rotate_left
      · intro w1 hSw; obtain ⟨hcS, hfS⟩ := bcell hSw; go_simp; (try with_reducible rfl)
      (try simp only [Act.put, List.setIfInBounds_toArray, List.set_cons_zero, List.set_cons_succ])
      refine takeD 10 37 (v := ?_) rfl rfl (by kernel_rfl) (by kernel_rfl) (by kernel_rfl) (fun _ _ _ h => h) (Or.inl ⟨by rfl, ?_⟩) (by assumption) ?_
      rotate_left
      · intro w1 hSw; obtain ⟨hcS, hfS⟩ := bcell hSw; go_simp; (try with_reducible rfl)
      (try simp only [Act.put, List.setIfInBounds_toArray, List.set_cons_zero, List.set_cons_succ])
      refine wpAnyH_done (by kernel_rfl) ?_ _
      have BQ := Lib.hid (Below.and hB.out hq)
      clear hq xr0 xr1 xr2 xr3 yr0 yr1 yr2 yr3 lx ly p0 p1 p2 p3 p4 p5 q0 q1 q2 q3 q4 q5 l0 l1
      go_wp2
      go_roundw
      case rel => exact ⟨j + 1, by omega, by go_num, BQ.out⟩
      case measure => (simp [intOf]; try omega)
    · have i1 : ¬ (j : Int) < (L.length : Int) := by omega
      have BQ := Lib.hid (Below.and Z.out hB.out)
      go_wp2
      go_light
      go_ret
      exact ⟨rfl, BQ.out⟩

end Go.Proofs.Ytdpladihacgobaa
