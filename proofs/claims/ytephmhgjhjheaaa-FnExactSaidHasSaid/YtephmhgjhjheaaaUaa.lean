/- The laws' own helper over claims and claims. -/
import Derived.Test.YtephmhgjhjheaaaUa
import Derived.Test.YtephmhgjhjheaaaMem3
namespace Go.Proofs.Ytephmhgjhjheaaa
open Go.ChangeShapes Go.WideShapes Go.ChangeAt Go.RowKit
set_option linter.unusedVariables false

set_option maxHeartbeats 400000 in
theorem toClaim (a : Cl) (w : World) :
    Calls Try.prog 70 #[a.val] w fun e w' => e = .returned a.val ∧ Below w.heap.size w w' := by
  obtain ⟨s, v, r⟩ := a
  go_enter Try.func70, Try.ntmps70
  go_wp2_with (fail)
  refine (toRq r _).mono ?_
  rintro e w1 ⟨rfl, hb⟩
  obtain ⟨hc, hf⟩ := bcell hb
  have hz : w.heap.size + 1 + 1 < w1.heap.size := by have := hb.size; simp at this; omega
  have B := Lib.hid (below_box3 hb)
  go_wp2
  refine bodyPost_ret (v := .agg #[.int .i64 s, .int .i64 v, .int .i64 r.c, .int .i64 r.n, .int .i64 r.o, .int .i64 r.x, .int .i64 r.y]) ?hv ?hd ?hp
  · simp [results, Try.results70, go_sem, hc]
  · rfl
  · clear hb hc hf
    refine ⟨rfl, ?_⟩
    iterate 12 (refine Below.setCell ?_ (by first | (simp; done) | (simp; omega)) _)
    exact B.out

end Go.Proofs.Ytephmhgjhjheaaa
