/- Two that read alike, done ahead: true. -/
import Derived.Test.YtnpdlpkomfegfaaWq
import Derived.Test.YtnpdlpkomfegfaaHf
namespace Go.Proofs.Ytnpdlpkomfegfaa
open Go.ChangeShapes Go.WideShapes Go.ChangeAt Go.RowKit
set_option linter.unusedVariables false
set_option linter.unusedSimpArgs false

set_option maxRecDepth 100000 in
set_option maxHeartbeats 4000000 in
theorem wpAhead_rd {w : World} {A1 B1 A2 B2 : Option Addr} {a1 b1 a2 b2 : Nat} {D T : List Rq} {k : Int} (hD : D.length ≤ 1048576) (hT : T.length ≤ 1048576) (d1 : Rd 5 Rq.cells w A1 D) (t1 : Rd 5 Rq.cells w B1 T) (d2 : Rd 5 Rq.cells w A2 D) (t2 : Rd 5 Rq.cells w B2 T) :
 Calls Try.prog 18 #[aheadV A1 D.length a1 B1 T.length b1 k, aheadV A2 D.length a2 B2 T.length b2 k] w fun e w' => e = .returned (.bool true) ∧ Below w.heap.size w w' := by
 have hb0 : Below w.heap.size w ((w.alloc (.cells #[.slice A1 D.length a1, .slice B1 T.length b1, .int .i64 k] 25)).alloc (.cells #[.slice A2 D.length a2, .slice B2 T.length b2, .int .i64 k] 25)) := below_alloc2 w _ _
 have K1 := Lib.hid ((Three.new (u0 := .slice A1 D.length a1) (u1 := .slice B1 T.length b1) (u2 := .int .i64 k) (t := 25) w).alloc (.cells #[.slice A2 D.length a2, .slice B2 T.length b2, .int .i64 k] 25))
 have K2 : Hid (Three ((w.alloc (.cells #[.slice A1 D.length a1, .slice B1 T.length b1, .int .i64 k] 25)).alloc (.cells #[.slice A2 D.length a2, .slice B2 T.length b2, .int .i64 k] 25)) (w.heap.size + 1) 25 (.slice A2 D.length a2) (.slice B2 T.length b2) (.int .i64 k)) := by
  have := Three.new (u0 := .slice A2 D.length a2) (u1 := .slice B2 T.length b2) (u2 := .int .i64 k) (t := 25) (w.alloc (.cells #[.slice A1 D.length a1, .slice B1 T.length b1, .int .i64 k] 25))
  simpa [Hid] using this
 have H1 := Lib.hid (Rd.below d1 hb0)
 have H2 := Lib.hid (Rd.below t1 hb0)
 have H3 := Lib.hid (Rd.below d2 hb0)
 have H4 := Lib.hid (Rd.below t2 hb0)
 have Z := Lib.hid hb0
 have hk : (k == k) = true := by simp
 clear d1 t1 d2 t2 hb0
 go_enter Try.func18, Try.ntmps18
 go_upto_region 1 with (fail)
 obtain ⟨w0, hw0⟩ : ∃ X, X = (w.alloc (.cells #[.slice A1 D.length a1, .slice B1 T.length b1, .int .i64 k] 25)).alloc (.cells #[.slice A2 D.length a2, .slice B2 T.length b2, .int .i64 k] 25) := ⟨_, rfl⟩
 rw [← hw0] at K1 K2 H1 H2 H3 H4 Z ⊢
 clear hw0
 obtain ⟨p0, p1, p2⟩ := K1.out.cells
 obtain ⟨q0, q1, q2⟩ := K2.out.cells
 go_wp2_with (fail)
 refine (wpReqsQ A1 A2 a1 a2 D _ (by unfold maxLen; omega) H1.out H3.out).mono ?_
 rintro e w1 ⟨rfl, hb⟩
 have K1 := Lib.hid (Three.below K1.out hb K1.out.lt)
 have K2 := Lib.hid (Three.below K2.out hb K2.out.lt)
 have H2 := Lib.hid (Rd.below H2.out hb)
 have H4 := Lib.hid (Rd.below H4.out hb)
 have Z := Lib.hid (Below.and Z.out hb)
 clear hb p0 p1 p2 q0 q1 q2 H1 H3
 obtain ⟨p0, p1, p2⟩ := K1.out.cells
 obtain ⟨q0, q1, q2⟩ := K2.out.cells
 go_wp2_with (fail)
 refine (wpReqsQ B1 B2 b1 b2 T _ (by unfold maxLen; omega) H2.out H4.out).mono ?_
 rintro e w2 ⟨rfl, hb⟩
 have K1 := Lib.hid (Three.below K1.out hb K1.out.lt)
 have K2 := Lib.hid (Three.below K2.out hb K2.out.lt)
 have Z := Lib.hid (Below.and Z.out hb)
 clear hb p0 p1 p2 q0 q1 q2 H2 H4
 obtain ⟨p0, p1, p2⟩ := K1.out.cells
 obtain ⟨q0, q1, q2⟩ := K2.out.cells
 go_wp2
 go_light
 go_ret
 exact ⟨rfl, Z.out⟩

end Go.Proofs.Ytnpdlpkomfegfaa
