/- Ld, Y, Z -/
import Derived.Test.YtlcigfigblfpdaaMB
import Derived.IntWalk
import Derived.Test.YtlcigfigblfpdaaME
import Derived.Test.YtlcigfigblfpdaaMC
/- Who leads in a view: contracts. -/
namespace Go.Proofs.Ytlcigfigblfpdaa
open Go.ChangeShapes Go.WideShapes Go.ChangeAt Go.RowKit
set_option linter.unusedVariables false

def leadI (v : Int) : Int := if inB v 0 6 = true then v % 4 else -1

end Go.Proofs.Ytlcigfigblfpdaa

/- Requests and claims that are valid, or null. -/
namespace Go.Proofs.Ytlcigfigblfpdaa
open Go.ChangeShapes Go.WideShapes Go.ChangeAt Go.RowKit
set_option linter.unusedVariables false

def nullB (r : Rq) : Bool := decide (r = ⟨0, 0, 0, 0, 0⟩)
def rqB (r : Rq) : Bool := reqB r.c r.n r.o r.x r.y
def okB (r : Rq) : Bool := rqB r || nullB r
def clB (c : Cl) : Bool := inB c.s 1 5 && (inB c.v 0 6 && okB c.r)

theorem l1None (r : Rq) (w : World) :
    Calls Try.prog 15 #[r.val] w fun e w' => e = .returned (.bool (nullB r)) ∧ Below w.heap.size w w' := by
  have hq : ∀ W, (binOp .eql 32 (.agg #[.int .i64 r.c, .int .i64 r.n, .int .i64 r.o, .int .i64 r.x, .int .i64 r.y]) (.agg #[.int .i64 0, .int .i64 0, .int .i64 0, .int .i64 0, .int .i64 0])).run Try.prog W = .ok (.bool (nullB r)) W := fun W => eqlReq r ⟨0, 0, 0, 0, 0⟩ W
  go_enter Try.func15, Try.ntmps15
  go_wp2
  go_light
  go_ret
  exact ⟨rfl, (Below.refl _ _).alloc (Nat.le_refl _) _⟩

end Go.Proofs.Ytlcigfigblfpdaa

/- Lists of claims and of votes that are valid: the program's way. -/
namespace Go.Proofs.Ytlcigfigblfpdaa
open Go.ChangeShapes Go.WideShapes Go.ChangeAt Go.RowKit
set_option linter.unusedVariables false

def clsB : Int → List Cl → Bool
  | _, [] => true
  | p, c :: t => decide (p < c.s) && (clB c && clsB c.s t)
def vtsB : Int → List VtP → Bool
  | _, [] => true
  | p, v :: t => decide (p < v.f) && (inB v.f 0 3 && (clsB 0 v.cl && vtsB v.f t))

end Go.Proofs.Ytlcigfigblfpdaa
