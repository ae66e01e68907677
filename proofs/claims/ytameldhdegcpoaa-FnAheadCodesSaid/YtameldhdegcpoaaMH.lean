import Derived.Test.YtameldhdegcpoaaMB
import Derived.IntWalk
import Derived.Test.YtameldhdegcpoaaME
import Derived.Test.YtameldhdegcpoaaMC
namespace Go.Proofs.Ytameldhdegcpoaa
open Go.ChangeShapes Go.WideShapes Go.ChangeAt Go.RowKit
set_option linter.unusedVariables false
def nullB (r : Rq) : Bool := decide (r = ⟨0, 0, 0, 0, 0⟩)
def rqB (r : Rq) : Bool := reqB r.c r.n r.o r.x r.y
def okB (r : Rq) : Bool := rqB r || nullB r
theorem l1None (r : Rq) (w : World) :
 Calls Try.prog 78 #[r.val] w fun e w' => e = .returned (.bool (nullB r)) ∧ Below w.heap.size w w' := by
 have hq : ∀ W, (binOp .eql 49 (.agg #[.int .i64 r.c, .int .i64 r.n, .int .i64 r.o, .int .i64 r.x, .int .i64 r.y]) (.agg #[.int .i64 0, .int .i64 0, .int .i64 0, .int .i64 0, .int .i64 0])).run Try.prog W = .ok (.bool (nullB r)) W := fun W => eqlReq r ⟨0, 0, 0, 0, 0⟩ W
 go_enter Try.func78, Try.ntmps78
 go_wp2
 go_light
 go_ret
 exact ⟨rfl, (Below.refl _ _).alloc (Nat.le_refl _) _⟩
theorem isNull (r : Rq) (w : World) :
 Calls Try.prog 71 #[r.val] w fun e w' => e = .returned (.bool (nullB r)) ∧ Below w.heap.size w w' := by
 have hq : ∀ W, (binOp .eql 49 (.agg #[.int .i64 r.c, .int .i64 r.n, .int .i64 r.o, .int .i64 r.x, .int .i64 r.y]) (.agg #[.int .i64 0, .int .i64 0, .int .i64 0, .int .i64 0, .int .i64 0])).run Try.prog W = .ok (.bool (nullB r)) W := fun W => eqlReq r ⟨0, 0, 0, 0, 0⟩ W
 go_enter Try.func71, Try.ntmps71
 go_wp2
 go_light
 go_ret
 exact ⟨rfl, (Below.refl _ _).alloc (Nat.le_refl _) _⟩
theorem okOrNull (r : Rq) (w : World) :
 Calls Try.prog 69 #[r.val] w fun e w' => e = .returned (.bool (okB r)) ∧ Below w.heap.size w w' := by
 have Z0 : Hid (Below w.heap.size w (w.alloc (.cells #[.int .i64 r.c, .int .i64 r.n, .int .i64 r.o, .int .i64 r.x, .int .i64 r.y] 49))) := (Below.refl _ _).alloc (Nat.le_refl _) _
 go_enter Try.func69, Try.ntmps69
 go_wp2_with (fail)
 refine (implReqOk r.c r.n r.o r.x r.y _).mono ?_
 rintro e w1 ⟨rfl, hb⟩
 obtain ⟨hc, hf⟩ := bcell hb
 have Z1 := Lib.hid (Below.and Z0.out hb)
 have hz : w.heap.size < w1.heap.size := by have := hb.size; simp at this; omega
 rcases h1 : reqB r.c r.n r.o r.x r.y with _ | _
 · go_wp2_with (fail)
   refine (isNull r _).mono ?_
   rintro e w2 ⟨rfl, h2⟩
   clear hc hf hb
   go_wp2
   go_light
   go_ret
   exact ⟨ret_bool (by unfold okB rqB; rw [h1]; rfl), Below.and Z1.out h2⟩
 · clear hc hf hb
   go_wp2
   go_light
   go_ret
   exact ⟨ret_bool (by unfold okB rqB; rw [h1]; rfl), Z1.out⟩
end Go.Proofs.Ytameldhdegcpoaa
