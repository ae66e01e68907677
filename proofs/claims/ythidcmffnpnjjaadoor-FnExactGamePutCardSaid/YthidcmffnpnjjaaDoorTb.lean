/- Contracts of the order of requests. -/
import Derived.Test.YthidcmffnpnjjaaDoorTa
import Derived.StillTailTactics
import Derived.Deep.RegionHeld3
namespace Go.Proofs.YthidcmffnpnjjaaDoor
open Go.ChangeShapes Go.WideShapes Go.ChangeAt Go.RowKit

def cmpI (a b : Int) : Int := if a < b then -1 else if b < a then 1 else 0

theorem ret_int {k : IntKind} {a b : Int} (h : a = b) : Ending.returned (.int k a) = .returned (.int k b) := by rw [h]

def orL : List Int → Int
  | [] => 0
  | a :: l => if a = 0 then orL l else a

def lessB (c n o x y c' n' o' x' y' : Int) : Bool :=
  if c = c' then if n = n' then if o = o' then if x = x' then decide (y < y') else decide (x < x') else decide (o < o') else decide (n < n') else decide (c < c')

theorem cmpI_eq (a b : Int) : cmpI a b = 0 ↔ a = b := by unfold cmpI; repeat' split <;> omega
theorem cmpI_lt (a b : Int) : cmpI a b < 0 ↔ a < b := by unfold cmpI; repeat' split <;> omega

theorem orL_less (c n o x y c' n' o' x' y' : Int) : decide (orL [cmpI c c', cmpI n n', cmpI o o', cmpI x x', cmpI y y'] < 0) = lessB c n o x y c' n' o' x' y' := by
  unfold lessB
  simp only [orL, cmpI_eq]
  repeat' split
  all_goals (simp_all [cmpI_lt])

theorem below_box2 {w w1 : World} {o o' : Obj} (hb : Below ((w.alloc o).alloc o').heap.size ((w.alloc o).alloc o') w1) : Below w.heap.size w w1 := (((Below.refl _ _).alloc (Nat.le_refl _) _).alloc (by simp) _).trans (hb.mono (by simp; omega))

theorem Below.back {a b c : World} {S : Prop} (k : Below b.heap.size b c) (h : Below a.heap.size a b ∧ S) : Below a.heap.size a c := h.1.trans (k.mono h.1.size)

end Go.Proofs.YthidcmffnpnjjaaDoor
