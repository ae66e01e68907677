/- Eq, Ua, Uaa, Ub, Uc, Ud, Ue, Uf, Uh, Ug -/
import Derived.Test.YtdpladihacgobaaMA
import Derived.Test.YtdpladihacgobaaRows
import Derived.Test.YtdpladihacgobaaMB
import Derived.Laws.StructEq
import Derived.Test.YtdpladihacgobaaMC
/- Requests and claims held against each other by ==. -/
namespace Go.Proofs.Ytdpladihacgobaa
open Go.ChangeShapes Go.WideShapes Go.ChangeAt Go.RowKit

theorem len5 {α : Type} (l : List α) (h : l.length = 5) : ∃ a b c d e, l = [a, b, c, d, e] :=
  match l, h with
  | [a, b, c, d, e], _ => ⟨a, b, c, d, e, rfl⟩
theorem len3 {α : Type} (l : List α) (h : l.length = 3) : ∃ a b c, l = [a, b, c] :=
  match l, h with
  | [a, b, c], _ => ⟨a, b, c, rfl⟩

set_option maxRecDepth 100000 in
theorem fieldsReq (d : Nat) (a b : Rq) (w : World) (xs ys : Array Value) (hx : xs = a.cells.toArray) (hy : ys = b.cells.toArray) : (Op.eqFields (d + 1) xs ys (Try.prog.fieldsOf 24).toList).run Try.prog w = .ok (decide (a = b)) w := by
  obtain ⟨a1, a2, a3, a4, a5⟩ := a
  obtain ⟨b1, b2, b3, b4, b5⟩ := b
  subst hx hy
  have hf : (Try.prog.fieldsOf 24).toList.map (fun f => (f.name, f.type, f.offset)) = [("Client", 3, 0), ("Num", 3, 1), ("Op", 3, 2), ("X", 3, 3), ("Y", 3, 4)] := by kernel_rfl
  generalize (Try.prog.fieldsOf 24).toList = fs at hf ⊢
  obtain ⟨f1, f2, f3, f4, f5, rfl⟩ := len5 fs (by have := congrArg List.length hf; simpa using this)
  simp only [List.map_cons, List.map_nil, List.cons.injEq, Prod.mk.injEq, and_true] at hf
  obtain ⟨⟨n1, t1, o1⟩, ⟨n2, t2, o2⟩, ⟨n3, t3, o3⟩, ⟨n4, t4, o4⟩, ⟨n5, t5, o5⟩⟩ := hf
  simp [Op.eqFields, n1, t1, o1, n2, t2, o2, n3, t3, o3, n4, t4, o4, n5, t5, o5, Rq.cells, go_sem]
  repeat' split
  all_goals simp_all

theorem eqlReq (a b : Rq) (w : World) : (binOp .eql 24 a.val b.val).run Try.prog w = .ok (.bool (decide (a = b))) w := by
  rw [run_eql_struct, run_equalIn_struct _ _ _ _ _ (by kernel_rfl) (by kernel_rfl), fieldsReq 9998 a b w #[.int .i64 a.c, .int .i64 a.n, .int .i64 a.o, .int .i64 a.x, .int .i64 a.y] #[.int .i64 b.c, .int .i64 b.n, .int .i64 b.o, .int .i64 b.x, .int .i64 b.y] rfl rfl]
  rfl

theorem neqReq (a b : Rq) (w : World) : (binOp .neq 24 a.val b.val).run Try.prog w = .ok (.bool (!decide (a = b))) w := by
  rw [run_neq_struct, run_equalIn_struct _ _ _ _ _ (by kernel_rfl) (by kernel_rfl), fieldsReq 9998 a b w #[.int .i64 a.c, .int .i64 a.n, .int .i64 a.o, .int .i64 a.x, .int .i64 a.y] #[.int .i64 b.c, .int .i64 b.n, .int .i64 b.o, .int .i64 b.x, .int .i64 b.y] rfl rfl]
  rfl

end Go.Proofs.Ytdpladihacgobaa

/- The laws' own helpers over requests and claims. -/
namespace Go.Proofs.Ytdpladihacgobaa
open Go.ChangeShapes Go.WideShapes Go.ChangeAt Go.RowKit
set_option linter.unusedVariables false

theorem toRq (r : Rq) (w : World) : Calls Try.prog 29 #[r.val] w fun e w' => e = .returned r.val ∧ Below w.heap.size w w' := toReq r.c r.n r.o r.x r.y w

theorem eqReq (a b : Rq) (w : World) :
    Calls Try.prog 50 #[a.val, b.val] w fun e w' => e = .returned (.bool (decide (a = b))) ∧ Below w.heap.size w w' := by
  obtain ⟨c, n, o, x, y⟩ := a
  obtain ⟨c', n', o', x', y'⟩ := b
  go_enter Try.func50, Try.ntmps50
  go_wp2
  all_goals go_light
  all_goals go_ret
  all_goals refine ⟨ret_bool ?_, ((Below.refl _ _).alloc (Nat.le_refl _) _).alloc (by simp) _⟩
  all_goals (simp_all)

end Go.Proofs.Ytdpladihacgobaa

/- Requests and claims that came in, made the program's own. -/
namespace Go.Proofs.Ytdpladihacgobaa
open Go.ChangeShapes Go.WideShapes Go.ChangeAt Go.RowKit
set_option linter.unusedVariables false

theorem infoReq : (Try.prog.info? 24).map (fun i => (i.zero, i.size, i.bytes)) = some (some (.agg #[.int .i64 0, .int .i64 0, .int .i64 0, .int .i64 0, .int .i64 0]), 5, 40) := by kernel_rfl

end Go.Proofs.Ytdpladihacgobaa

/- The laws' own helpers over votes. -/
namespace Go.Proofs.Ytdpladihacgobaa
open Go.ChangeShapes Go.WideShapes Go.ChangeAt Go.RowKit
set_option linter.unusedVariables false

theorem map_take_step {α β : Type} {f : α → β} {la lb : List α} {k : Nat} (ha : k < la.length) (hb : k < lb.length) (h : (la.map f).take k = (lb.map f).take k) (he : f la[k] = f lb[k]) : (la.map f).take (k + 1) = (lb.map f).take (k + 1) :=
  take_step (by simpa using ha) (by simpa using hb) h (by simpa using he)

theorem map_ne_of_at {α β : Type} {f : α → β} {la lb : List α} {k : Nat} (ha : k < la.length) (hb : k < lb.length) (he : f la[k] ≠ f lb[k]) : la.map f ≠ lb.map f :=
  ne_of_at (by simpa using ha) (by simpa using hb) (k := k) (by simpa using he)

end Go.Proofs.Ytdpladihacgobaa
