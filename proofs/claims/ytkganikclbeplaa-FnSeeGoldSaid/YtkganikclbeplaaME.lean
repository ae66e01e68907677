/- Eq, Ua, Uaa, Ub, Uc, Ud, Ue, Uf -/
import Derived.Test.YtkganikclbeplaaMA
import Derived.Test.YtkganikclbeplaaRows
import Derived.Test.YtkganikclbeplaaMB
import Derived.Laws.StructEq
import Derived.Test.YtkganikclbeplaaMC
/- Requests and claims held against each other by ==. -/
namespace Go.Proofs.Ytkganikclbeplaa
open Go.ChangeShapes Go.WideShapes Go.ChangeAt Go.RowKit

theorem len5 {α : Type} (l : List α) (h : l.length = 5) : ∃ a b c d e, l = [a, b, c, d, e] :=
 match l, h with
 | [a, b, c, d, e], _ => ⟨a, b, c, d, e, rfl⟩
set_option maxRecDepth 100000 in
theorem fieldsReq (d : Nat) (a b : Rq) (w : World) (xs ys : Array Value) (hx : xs = a.cells.toArray) (hy : ys = b.cells.toArray) : (Op.eqFields (d + 1) xs ys (Try.prog.fieldsOf 39).toList).run Try.prog w = .ok (decide (a = b)) w := by
 obtain ⟨a1, a2, a3, a4, a5⟩ := a
 obtain ⟨b1, b2, b3, b4, b5⟩ := b
 subst hx hy
 have hf : (Try.prog.fieldsOf 39).toList.map (fun f => (f.name, f.type, f.offset)) = [("Client", 3, 0), ("Num", 3, 1), ("Op", 3, 2), ("X", 3, 3), ("Y", 3, 4)] := by kernel_rfl
 generalize (Try.prog.fieldsOf 39).toList = fs at hf ⊢
 obtain ⟨f1, f2, f3, f4, f5, rfl⟩ := len5 fs (by have := congrArg List.length hf; simpa using this)
 simp only [List.map_cons, List.map_nil, List.cons.injEq, Prod.mk.injEq, and_true] at hf
 obtain ⟨⟨n1, t1, o1⟩, ⟨n2, t2, o2⟩, ⟨n3, t3, o3⟩, ⟨n4, t4, o4⟩, ⟨n5, t5, o5⟩⟩ := hf
 simp [Op.eqFields, n1, t1, o1, n2, t2, o2, n3, t3, o3, n4, t4, o4, n5, t5, o5, Rq.cells, go_sem]
 repeat' split
 all_goals simp_all

theorem eqlReq (a b : Rq) (w : World) : (binOp .eql 39 a.val b.val).run Try.prog w = .ok (.bool (decide (a = b))) w := by
 rw [run_eql_struct, run_equalIn_struct _ _ _ _ _ (by kernel_rfl) (by kernel_rfl), fieldsReq 9998 a b w #[.int .i64 a.c, .int .i64 a.n, .int .i64 a.o, .int .i64 a.x, .int .i64 a.y] #[.int .i64 b.c, .int .i64 b.n, .int .i64 b.o, .int .i64 b.x, .int .i64 b.y] rfl rfl]
 rfl

end Go.Proofs.Ytkganikclbeplaa

/- Requests and claims that came in, made the program's own. -/
namespace Go.Proofs.Ytkganikclbeplaa
open Go.ChangeShapes Go.WideShapes Go.ChangeAt Go.RowKit
set_option linter.unusedVariables false

theorem infoReq : (Try.prog.info? 39).map (fun i => (i.zero, i.size, i.bytes)) = some (some (.agg #[.int .i64 0, .int .i64 0, .int .i64 0, .int .i64 0, .int .i64 0]), 5, 40) := by kernel_rfl

end Go.Proofs.Ytkganikclbeplaa
