/- Votes held against each other. -/
import Derived.Test.YtephmhgjhjheaaaUd
namespace Go.Proofs.Ytephmhgjhjheaaa
open Go.ChangeShapes Go.WideShapes Go.ChangeAt Go.RowKit
set_option linter.unusedVariables false

set_option maxRecDepth 100000 in
theorem sameVote (p q : VtP) (w : World) (hp : p.rd w) (hq : q.rd w) :
    Calls Try.prog 109 #[p.val, q.val] w fun e w' => e = .returned (.bool (decide (p.vt = q.vt))) ∧ Below w.heap.size w w' := by
  obtain ⟨g, A, c, l⟩ := p
  obtain ⟨g', A', c', l'⟩ := q
  have z0 := Lib.hid (below_alloc2 w (.cells #[.int .i64 g, .slice A l.length c] 58) (.cells #[.int .i64 g', .slice A' l'.length c'] 58))
  have H1 := Lib.hid (hp.2.below z0.out)
  have H2 := Lib.hid (hq.2.below z0.out)
  have m1 : l.length ≤ maxLen := hp.1
  have m2 : l'.length ≤ maxLen := hq.1
  clear hp hq
  rcases h1 : (g == g') with _ | _
  · go_enter Try.func109, Try.ntmps109
    go_wp2
    go_light
    go_ret
    exact ⟨ret_bool (by simp_all [VtP.vt]), z0.out⟩
  · go_enter Try.func109, Try.ntmps109
    go_wp2_with (fail)
    refine (slEqual A A' c c' l l' _ m1 m2 H1.out H2.out).mono ?_
    rintro e w1 ⟨rfl, m, rfl⟩
    rcases he : decide (l = l') with _ | _
    all_goals go_wp2
    all_goals go_light
    all_goals go_ret
    all_goals exact ⟨ret_bool (by simp_all [VtP.vt]), Below.drewN z0.out _⟩
end Go.Proofs.Ytephmhgjhjheaaa
