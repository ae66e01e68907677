/- What the requests' proofs share: a request that came in, opened. -/
import Derived.Test.YtephmhgjhjheaaaTa
import Derived.Test.YtephmhgjhjheaaaLaw
import Derived.Deep.Fields
namespace Go.Proofs.Ytephmhgjhjheaaa
open Go.ChangeShapes Go.WideShapes Go.ChangeAt Go.RowKit Go.Deep

theorem Try.own : ownKnob Try.prog.godebug = none := by kernel_rfl
theorem Try.laidOut : laidOutB Try.prog = true := by kernel_rfl

set_option maxRecDepth 100000 in
theorem req_of_trod {H : Type} {enc : TypeId × Value → H} {w : World} {base b0 : Nat} {spare : Nat → Bool} {held : Bool} {r : Reach} {v : Value} {d : DataW H} {p : List MemPlace}
    (hv : Value.okWide Try.prog w r b0 64 v) (h : DataW.Trod enc Try.prog w base spare held 64 v d p) : ∃ c n o x y : Int, v = req c n o x y := by
  obtain ⟨l, hl, rfl, _⟩ := ints_of_struct Try.underlying64 (by kernel_rfl) (by kernel_rfl) (by kernel_rfl) hv h
  obtain ⟨a, b, c, d, e, rfl⟩ := five_of l hl
  exact ⟨a, b, c, d, e, rfl⟩

end Go.Proofs.Ytephmhgjhjheaaa
