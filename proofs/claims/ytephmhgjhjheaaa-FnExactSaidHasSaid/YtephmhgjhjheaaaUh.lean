/- Letters held against each other: the model's way. -/
import Derived.Test.YtephmhgjhjheaaaUf
namespace Go.Proofs.Ytephmhgjhjheaaa
open Go.ChangeShapes Go.WideShapes Go.ChangeAt Go.RowKit
set_option linter.unusedVariables false

set_option maxRecDepth 100000 in
set_option maxHeartbeats 2000000 in
theorem l3Same (p q : MgP) (w : World) (hp : p.rd w) (hq : q.rd w) :
    Calls Try.prog 110 #[p.val, q.val] w fun e w' => e = .returned (.bool (decide (p.mg = q.mg))) ∧ Below w.heap.size w w' := by
  have z0 := Lib.hid (below_alloc2 w (.cells #[.int .i64 p.k, .int .i64 p.f, .int .i64 p.v, .int .i64 p.s, .int .i64 p.r.c, .int .i64 p.r.n, .int .i64 p.r.o, .int .i64 p.r.x, .int .i64 p.r.y, .slice p.A p.cl.length p.a, .slice p.B p.vt.length p.b] 49) (.cells #[.int .i64 q.k, .int .i64 q.f, .int .i64 q.v, .int .i64 q.s, .int .i64 q.r.c, .int .i64 q.r.n, .int .i64 q.r.o, .int .i64 q.r.x, .int .i64 q.r.y, .slice q.A q.cl.length q.a, .slice q.B q.vt.length q.b] 49))
  obtain ⟨m1, m2, r1, r2⟩ := hp.below z0.out
  obtain ⟨n1, n2, s1, s2⟩ := hq.below z0.out
  have R1 := Lib.hid r1
  have R2 := Lib.hid r2
  have S1 := Lib.hid s1
  have S2 := Lib.hid s2
  clear hp hq r1 r2 s1 s2
  rcases h1 : (p.k == q.k) with _ | _
  · go_enter Try.func110, Try.ntmps110
    go_wp2
    go_light
    go_ret
    exact ⟨ret_bool (by simp_all [MgP.mg]), z0.out⟩
  rcases h2 : (p.f == q.f) with _ | _
  · go_enter Try.func110, Try.ntmps110
    go_wp2
    go_light
    go_ret
    exact ⟨ret_bool (by simp_all [MgP.mg]), z0.out⟩
  rcases h3 : (p.v == q.v) with _ | _
  · go_enter Try.func110, Try.ntmps110
    go_wp2
    go_light
    go_ret
    exact ⟨ret_bool (by simp_all [MgP.mg]), z0.out⟩
  rcases h4 : (p.s == q.s) with _ | _
  · go_enter Try.func110, Try.ntmps110
    go_wp2
    go_light
    go_ret
    exact ⟨ret_bool (by simp_all [MgP.mg]), z0.out⟩
  have hr : ∀ W, (binOp .eql 24 (.agg #[.int .i64 p.r.c, .int .i64 p.r.n, .int .i64 p.r.o, .int .i64 p.r.x, .int .i64 p.r.y]) (.agg #[.int .i64 q.r.c, .int .i64 q.r.n, .int .i64 q.r.o, .int .i64 q.r.x, .int .i64 q.r.y])).run Try.prog W = .ok (.bool (decide (p.r = q.r))) W := fun W => eqlReq p.r q.r W
  rcases h5 : decide (p.r = q.r) with _ | _
  all_goals simp only [h5] at hr
  · go_enter Try.func110, Try.ntmps110
    go_wp2
    go_light
    go_ret
    exact ⟨ret_bool (by simp_all [MgP.mg]), z0.out⟩
  go_enter Try.func110, Try.ntmps110
  go_wp2_with (fail)
  refine (l3SameClaims p.A q.A p.a q.a p.cl q.cl _ m1 n1 R1.out S1.out).mono ?_
  rintro e w1 ⟨rfl, m, rfl⟩
  rcases h6 : decide (p.cl = q.cl) with _ | _
  · go_wp2
    go_light
    go_ret
    exact ⟨ret_bool (by simp_all [MgP.mg]), Below.drewN z0.out _⟩
  go_wp2_with (fail)
  refine (l3SameVotes p.B q.B p.b q.b p.vt q.vt _ m2 n2 (R2.out.below (Below.drewN (Below.refl _ _) _)) (S2.out.below (Below.drewN (Below.refl _ _) _))).mono ?_
  rintro e w2 ⟨rfl, h7⟩
  have B2 := Lib.hid (Below.and (Below.drewN z0.out m) h7)
  rcases h8 : decide (p.vt.map VtP.vt = q.vt.map VtP.vt) with _ | _
  all_goals go_wp2
  all_goals go_light
  all_goals go_ret
  all_goals exact ⟨ret_bool (by simp_all [MgP.mg]), B2.out⟩
end Go.Proofs.Ytephmhgjhjheaaa
