/- Letters held against each other: the program's way, whole. -/
import Derived.Test.YtfelhnchnaggmaaUia
import Derived.Test.YtfelhnchnaggmaaUib
import Derived.Test.YtfelhnchnaggmaaUic
namespace Go.Proofs.Ytfelhnchnaggmaa
open Go.ChangeShapes Go.WideShapes Go.ChangeAt Go.RowKit
set_option linter.unusedVariables false

set_option maxRecDepth 100000 in
set_option maxHeartbeats 4000000 in
theorem msgSame (p q : MgP) (w : World) (hp : p.rd w) (hq : q.rd w) : Calls Try.prog 46 #[p.val, q.val] w fun e w' => e = .returned (.bool (decide (p.mg = q.mg))) ∧ Below w.heap.size w w' := by
  have HP := Lib.hid hp
  have HQ := Lib.hid hq
  have z0 := Lib.hid (below_alloc2 w (.cells #[.int .i64 p.k, .int .i64 p.f, .int .i64 p.v, .int .i64 p.s, .int .i64 p.r.c, .int .i64 p.r.n, .int .i64 p.r.o, .int .i64 p.r.x, .int .i64 p.r.y, .slice p.A p.cl.length p.a, .slice p.B p.vt.length p.b] 72) (.cells #[.int .i64 q.k, .int .i64 q.f, .int .i64 q.v, .int .i64 q.s, .int .i64 q.r.c, .int .i64 q.r.n, .int .i64 q.r.o, .int .i64 q.r.x, .int .i64 q.r.y, .slice q.A q.cl.length q.a, .slice q.B q.vt.length q.b] 72))
  obtain ⟨m1, m2, r1, r2⟩ := hp.below z0.out
  obtain ⟨n1, n2, s1, s2⟩ := hq.below z0.out
  have R1 := Lib.hid r1
  have R2 := Lib.hid r2
  have S1 := Lib.hid s1
  have S2 := Lib.hid s2
  clear hp hq r1 r2 s1 s2
  rcases h1 : (p.k == q.k) with _ | _
  · go_enter Try.func46, Try.ntmps46
    go_wp2_with (fail)
    go_quiet (fail)
    go_wp2
    go_light
    go_ret
    exact ⟨ret_bool (by simp_all [MgP.mg]), Below.drewN z0.out _⟩
  rcases h2 : (p.f == q.f) with _ | _
  · go_enter Try.func46, Try.ntmps46
    go_wp2_with (fail)
    go_quiet (fail)
    go_wp2
    go_light
    go_ret
    exact ⟨ret_bool (by simp_all [MgP.mg]), Below.drewN z0.out _⟩
  rcases h5 : decide ((⟨p.s, p.v, p.r⟩ : Cl) = ⟨q.s, q.v, q.r⟩) with _ | _
  · exact (msgSame3 p q w HP.out HQ.out h1 h2 h5).mono fun _ _ h => ⟨h.1.trans (ret_bool (by simp_all [MgP.mg])), h.2⟩
  rcases h6 : decide (p.cl = q.cl) with _ | _
  · exact (msgSame4 p q w HP.out HQ.out h1 h2 h5 h6).mono fun _ _ h => ⟨h.1.trans (ret_bool (by simp_all [MgP.mg])), h.2⟩
  rcases h8 : decide (p.vt.map VtP.vt = q.vt.map VtP.vt) with _ | _
  · exact (msgSame5 p q w HP.out HQ.out h1 h2 h5 h6 h8).mono fun _ _ h => ⟨h.1.trans (ret_bool (by simp_all [MgP.mg])), h.2⟩
  · exact (msgSame6 p q w HP.out HQ.out h1 h2 h5 h6 h8).mono fun _ _ h => ⟨h.1.trans (ret_bool (by simp_all [MgP.mg])), h.2⟩
end Go.Proofs.Ytfelhnchnaggmaa
