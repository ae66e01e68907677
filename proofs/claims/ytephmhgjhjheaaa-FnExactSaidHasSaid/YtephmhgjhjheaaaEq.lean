/- Requests and claims held against each other by ==. -/
import Derived.Test.YtephmhgjhjheaaaMem3
import Derived.Test.YtephmhgjhjheaaaRows
import Derived.Test.YtephmhgjhjheaaaTa
import Derived.Laws.StructEq
namespace Go.Proofs.Ytephmhgjhjheaaa
open Go.ChangeShapes Go.WideShapes Go.ChangeAt Go.RowKit

theorem len5 {α : Type} (l : List α) (h : l.length = 5) : ∃ a b c d e, l = [a, b, c, d, e] :=
  match l, h with
  | [a, b, c, d, e], _ => ⟨a, b, c, d, e, rfl⟩
theorem len3 {α : Type} (l : List α) (h : l.length = 3) : ∃ a b c, l = [a, b, c] :=
  match l, h with
  | [a, b, c], _ => ⟨a, b, c, rfl⟩

set_option maxRecDepth 100000 in
theorem fieldsReq (d : Nat) (a b : Rq) (w : World) (xs ys : Array Value) (hx : xs = a.cells.toArray) (hy : ys = b.cells.toArray) : (Op.eqFields (d + 1) xs ys (Try.prog.fieldsOf 24).toList).run Try.prog w = .ok (decide (a = b)) w := by
  obtain ⟨a1, a2, a3, a4, a5⟩ := a
  obtain ⟨b1, b2, b3, b4, b5⟩ := b
  subst hx hy
  have hf : (Try.prog.fieldsOf 24).toList.map (fun f => (f.name, f.type, f.offset)) = [("Client", 3, 0), ("Num", 3, 1), ("Op", 3, 2), ("X", 3, 3), ("Y", 3, 4)] := by kernel_rfl
  generalize (Try.prog.fieldsOf 24).toList = fs at hf ⊢
  obtain ⟨f1, f2, f3, f4, f5, rfl⟩ := len5 fs (by have := congrArg List.length hf; simpa using this)
  simp only [List.map_cons, List.map_nil, List.cons.injEq, Prod.mk.injEq, and_true] at hf
  obtain ⟨⟨n1, t1, o1⟩, ⟨n2, t2, o2⟩, ⟨n3, t3, o3⟩, ⟨n4, t4, o4⟩, ⟨n5, t5, o5⟩⟩ := hf
  simp [Op.eqFields, n1, t1, o1, n2, t2, o2, n3, t3, o3, n4, t4, o4, n5, t5, o5, Rq.cells, go_sem]
  repeat' split
  all_goals simp_all

theorem eqlReq (a b : Rq) (w : World) : (binOp .eql 24 a.val b.val).run Try.prog w = .ok (.bool (decide (a = b))) w := by
  rw [run_eql_struct, run_equalIn_struct _ _ _ _ _ (by kernel_rfl) (by kernel_rfl), fieldsReq 9998 a b w #[.int .i64 a.c, .int .i64 a.n, .int .i64 a.o, .int .i64 a.x, .int .i64 a.y] #[.int .i64 b.c, .int .i64 b.n, .int .i64 b.o, .int .i64 b.x, .int .i64 b.y] rfl rfl]
  rfl

theorem neqReq (a b : Rq) (w : World) : (binOp .neq 24 a.val b.val).run Try.prog w = .ok (.bool (!decide (a = b))) w := by
  rw [run_neq_struct, run_equalIn_struct _ _ _ _ _ (by kernel_rfl) (by kernel_rfl), fieldsReq 9998 a b w #[.int .i64 a.c, .int .i64 a.n, .int .i64 a.o, .int .i64 a.x, .int .i64 a.y] #[.int .i64 b.c, .int .i64 b.n, .int .i64 b.o, .int .i64 b.x, .int .i64 b.y] rfl rfl]
  rfl

set_option maxRecDepth 100000 in
theorem fieldsClaim (d : Nat) (a b : Cl) (w : World) (xs ys : Array Value) (hx : xs = a.cells.toArray) (hy : ys = b.cells.toArray) : (Op.eqFields (d + 2) xs ys (Try.prog.fieldsOf 60).toList).run Try.prog w = .ok (decide (a = b)) w := by
  obtain ⟨s, v, a⟩ := a
  obtain ⟨s', v', b⟩ := b
  subst hx hy
  have hf : (Try.prog.fieldsOf 60).toList.map (fun f => (f.name, f.type, f.offset)) = [("Seq", 3, 0), ("View", 3, 1), ("Req", 24, 2)] := by kernel_rfl
  have hr := fieldsReq d a b
  have h1 := run_equalIn_struct (P := Try.prog) (t := 24) (hp := by kernel_rfl) (ht := by kernel_rfl)
  generalize (Try.prog.fieldsOf 60).toList = fs at hf ⊢
  obtain ⟨f1, f2, f3, rfl⟩ := len3 fs (by have := congrArg List.length hf; simpa using this)
  simp only [List.map_cons, List.map_nil, List.cons.injEq, Prod.mk.injEq, and_true] at hf
  obtain ⟨⟨n1, t1, o1⟩, ⟨n2, t2, o2⟩, ⟨n3, t3, o3⟩⟩ := hf
  simp [Op.eqFields, n1, t1, o1, n2, t2, o2, n3, t3, o3, Cl.cells, go_sem]
  obtain ⟨a1, a2, a3, a4, a5⟩ := a
  obtain ⟨b1, b2, b3, b4, b5⟩ := b
  clear hr h1
  repeat' split
  all_goals simp_all

theorem eqlClaim (a b : Cl) (w : World) : (binOp .eql 60 a.val b.val).run Try.prog w = .ok (.bool (decide (a = b))) w := by
  rw [run_eql_struct, run_equalIn_struct _ _ _ _ _ (by kernel_rfl) (by kernel_rfl), fieldsClaim 9997 a b w #[.int .i64 a.s, .int .i64 a.v, .int .i64 a.r.c, .int .i64 a.r.n, .int .i64 a.r.o, .int .i64 a.r.x, .int .i64 a.r.y] #[.int .i64 b.s, .int .i64 b.v, .int .i64 b.r.c, .int .i64 b.r.n, .int .i64 b.r.o, .int .i64 b.r.x, .int .i64 b.r.y] rfl rfl]
  rfl

theorem neqClaim (a b : Cl) (w : World) : (binOp .neq 60 a.val b.val).run Try.prog w = .ok (.bool (!decide (a = b))) w := by
  rw [run_neq_struct, run_equalIn_struct _ _ _ _ _ (by kernel_rfl) (by kernel_rfl), fieldsClaim 9997 a b w #[.int .i64 a.s, .int .i64 a.v, .int .i64 a.r.c, .int .i64 a.r.n, .int .i64 a.r.o, .int .i64 a.r.x, .int .i64 a.r.y] #[.int .i64 b.s, .int .i64 b.v, .int .i64 b.r.c, .int .i64 b.r.n, .int .i64 b.r.o, .int .i64 b.r.x, .int .i64 b.r.y] rfl rfl]
  rfl
end Go.Proofs.Ytephmhgjhjheaaa
