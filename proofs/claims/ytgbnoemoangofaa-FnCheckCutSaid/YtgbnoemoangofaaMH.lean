/- Ld, Y, Z -/
import Derived.Test.YtgbnoemoangofaaMB
import Derived.IntWalk
import Derived.Test.YtgbnoemoangofaaME
import Derived.Test.YtgbnoemoangofaaMC
/- Who leads in a view: contracts. -/
namespace Go.Proofs.Ytgbnoemoangofaa
open Go.ChangeShapes Go.WideShapes Go.ChangeAt Go.RowKit
set_option linter.unusedVariables false

def leadI (v : Int) : Int := if inB v 0 6 = true then v % 4 else -1

end Go.Proofs.Ytgbnoemoangofaa

/- Requests and claims that are valid, or null. -/
namespace Go.Proofs.Ytgbnoemoangofaa
open Go.ChangeShapes Go.WideShapes Go.ChangeAt Go.RowKit
set_option linter.unusedVariables false

def nullB (r : Rq) : Bool := decide (r = ⟨0, 0, 0, 0, 0⟩)
def rqB (r : Rq) : Bool := reqB r.c r.n r.o r.x r.y
def okB (r : Rq) : Bool := rqB r || nullB r
def clB (c : Cl) : Bool := inB c.s 1 5 && (inB c.v 0 6 && okB c.r)

end Go.Proofs.Ytgbnoemoangofaa

/- Lists of claims and of votes that are valid: the program's way. -/
namespace Go.Proofs.Ytgbnoemoangofaa
open Go.ChangeShapes Go.WideShapes Go.ChangeAt Go.RowKit
set_option linter.unusedVariables false

def clsB : Int → List Cl → Bool
  | _, [] => true
  | p, c :: t => decide (p < c.s) && (clB c && clsB c.s t)
def vtsB : Int → List VtP → Bool
  | _, [] => true
  | p, v :: t => decide (p < v.f) && (inB v.f 0 3 && (clsB 0 v.cl && vtsB v.f t))

theorem isKeeper (n : Int) (w : World) :
    Calls Try.prog 39 #[.int .i64 n] w fun e w' => e = .returned (.bool (inB n 0 3)) ∧ w = w' := by
  go_enter Try.func39, Try.ntmps39
  go_wp2_with (go_at_call 40; refine (implIn _ _ _ _).mono ?_; rintro e w' ⟨rfl, rfl⟩)
  go_ret
  exact ⟨rfl, rfl⟩

end Go.Proofs.Ytgbnoemoangofaa
