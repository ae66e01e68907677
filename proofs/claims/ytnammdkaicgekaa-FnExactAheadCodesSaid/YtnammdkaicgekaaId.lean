/- The exact law of AheadGame, walked. -/
import Derived.Test.YtnammdkaicgekaaIc
import Derived.Test.YtnammdkaicgekaaHg
import Derived.Test.YtnammdkaicgekaaMU
import Derived.Test.YtnammdkaicgekaaMC
import Derived.Deep.Cut
namespace Go.Proofs.Ytnammdkaicgekaa
open Go.ChangeShapes Go.WideShapes Go.ChangeAt Go.RowKit
set_option linter.unusedVariables false
set_option linter.unusedSimpArgs false

structure RdQ2 (w : World) (A B : Option Addr) (D T : List Rq) : Prop where
 d : Rd 5 Rq.cells w A D
 t : Rd 5 Rq.cells w B T
theorem OwB.keeps {w w' : World} {lo hi : Nat} {A : Option Addr} {a : Nat} {B : Option Addr} {b : Nat} {D T : List Rq} (h : OwB w lo hi A a B b D T) (hm : Mrkd w w' (.slice A D.length a) (.slice B T.length b)) : Keeps lo hi w w' :=
 ⟨hm.os, hm.tape, hm.output, hm.size, fun k hk ho => hm.block k hk (fun e => by have := (own_block_ge h.own.d k e).1; have := h.ud k e; omega) (fun e => by have := (own_block_ge h.own.t k e).1; have := h.ut k e; omega)⟩

end Go.Proofs.Ytnammdkaicgekaa
