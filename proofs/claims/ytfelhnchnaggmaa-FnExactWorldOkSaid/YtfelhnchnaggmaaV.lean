/- The exact law of MsgSame, walked. -/
import Derived.Test.YtfelhnchnaggmaaUid
import Derived.Test.YtfelhnchnaggmaaUn
import Derived.Test.YtfelhnchnaggmaaMG
namespace Go.Proofs.Ytfelhnchnaggmaa
open Go.ChangeShapes Go.WideShapes Go.ChangeAt Go.RowKit
set_option linter.unusedVariables false

theorem specMsgSame (p q : MgP) (w : World) (hp : p.rd w) (hq : q.rd w) :
    Calls Try.prog 47 #[p.val, q.val] w fun e w' => e = .returned (.bool (decide (p.mg = q.mg))) ∧ Below w.heap.size w w' := by
  have Z := below_alloc2 w (.cells #[.int .i64 p.k, .int .i64 p.f, .int .i64 p.v, .int .i64 p.s, .int .i64 p.r.c, .int .i64 p.r.n, .int .i64 p.r.o, .int .i64 p.r.x, .int .i64 p.r.y, .slice p.A p.cl.length p.a, .slice p.B p.vt.length p.b] 72) (.cells #[.int .i64 q.k, .int .i64 q.f, .int .i64 q.v, .int .i64 q.s, .int .i64 q.r.c, .int .i64 q.r.n, .int .i64 q.r.o, .int .i64 q.r.x, .int .i64 q.r.y, .slice q.A q.cl.length q.a, .slice q.B q.vt.length q.b] 72)
  have HP := Lib.hid (hp.below Z)
  have HQ := Lib.hid (hq.below Z)
  have ZZ := Lib.hid Z
  clear hp hq Z
  go_enter Try.func47, Try.ntmps47
  go_wp2_with (fail)
  refine (l3Same p q _ HP.out HQ.out).mono ?_
  rintro e w1 ⟨rfl, hb⟩
  go_wp2
  go_light
  go_ret
  exact ⟨rfl, Below.and ZZ.out hb⟩

theorem szR_neg {left : Int} {n : Nat} (h0 : 0 ≤ left) (h : ¬ szR left n < 0) : (n : Int) ≤ left ∧ szR left n = left - n := by
  unfold szR at h ⊢
  split at h
  · rename_i h1; exact ⟨h1, if_pos h1⟩
  · omega

end Go.Proofs.Ytfelhnchnaggmaa
