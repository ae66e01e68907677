/- Two requests drawn of a code. -/
import Derived.Test.YtlcigfigblfpdaaMM
import Derived.Deep.RegionWith
import Derived.Deep.RegionHeld3
import Derived.Deep.DeepCutAuto
namespace Go.Proofs.Ytlcigfigblfpdaa
open Go.ChangeShapes Go.WideShapes Go.ChangeAt Go.RowKit
set_option linter.unusedVariables false

theorem InB.alloc {w : World} {A : Option Addr} {n : Nat} (h : InB w A n) (o : Obj) : InB (w.alloc o) A n := fun i hi => by
  obtain ⟨b, off, u, h1, h2, h3⟩ := h i hi
  exact ⟨b, off, u, h1, (World.grownBy_alloc w o none).cell h2 (by simp), h3⟩

end Go.Proofs.Ytlcigfigblfpdaa
