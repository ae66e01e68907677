/-
  No cell of these rows narrows 'for every input' (looked for: loops, veiled, ifaces, maps, wideKeys, modest, calm, conditions, laid).
  DERIVED. THE GIVEN ROWS OF THIS SEAT. 5 by the template 'for every input the law returns true; each argument reads behind the call as it read before'; 0 by the template 'total and deterministic' (their statements: YtkganikclbeplaaTotals.lean).
  GIVEN WITH THE SEED: the statements are not yours to turn. If you find one false, say at which input.
  Laid BY PROGRAM, IN A SANDBOX (cutbox-rows.mjs): the forced cells as the released guide's own fill.sh prints them over the translation 48b89fec1e301838… (all of the seat's roots in one cut). By AI agents, Wed Nov 11 2026. No macro, syntax, notation, axiom, sorry.
-/
import Derived.Test.YtkganikclbeplaaChecked
import GoSem.Claim
import GoSem.ClaimJoined
import GoSem.ClaimMapViews
import Derived.JoinedTies
import Derived.KernelRfl
namespace Go.Proofs.Ytkganikclbeplaa
/- THE CELL 'sum', in the pinned program and in every row, IS THE sha256 OF THE DUMP (.gsa) THAT YtkganikclbeplaaProg.lean LOADS. Nothing in Lean hashes anything: it is a label: what it is worth is what the hold of that sum in a sandbox is worth. -/
noncomputable def Try.pinned : Pinned := { name := "ytkganikclbeplaa", sum := "48b89fec1e30183850919f59998df493db9b14c7b059757f1d01b11d9eca4aa3", checked := Try.checked }
namespace Rows
def none {H : Type} : Left H := { results := [], args := [] }

/-- 'laws.FnExactGameOk': WHATEVER THE INPUT: true; the input reads as it did. -/
def fnExactGameOkSpec : ChangeSpec := { name := "fnExactGameOk", fn := fun _ => fun
  | [d] => { results := [.lit (.bool true)], args := [d] }
  | _ => none }
def fnExactGameOkRow : OpenClaim := { program := "ytkganikclbeplaa", sum := "48b89fec1e30183850919f59998df493db9b14c7b059757f1d01b11d9eca4aa3", func := "loop.example/wapentake/laws.FnExactGameOk", spec := "fnExactGameOk", apart := false }
def FnExactGameOkSaid : Prop := fnExactGameOkRow.holds Try.pinned (OpenSpec.ofChange fnExactGameOkSpec)

/-- ITS FALSE NEIGHBOUR: 'it returns false'. Refute it at one input. -/
def fnExactGameOkWrong : ChangeSpec := { name := "fnExactGameOk", fn := fun _ => fun
  | [d] => { results := [.lit (.bool false)], args := [d] }
  | _ => none }
def FnExactGameOkWrongFalsely : Prop := fnExactGameOkRow.holds Try.pinned (OpenSpec.ofChange fnExactGameOkWrong)

/-- 'laws.FnExactSeeGold': WHATEVER THE INPUT: true; the input reads as it did. -/
def fnExactSeeGoldSpec : ChangeSpec := { name := "fnExactSeeGold", fn := fun _ => fun
  | [d] => { results := [.lit (.bool true)], args := [d] }
  | _ => none }
def fnExactSeeGoldRow : OpenClaim := { program := "ytkganikclbeplaa", sum := "48b89fec1e30183850919f59998df493db9b14c7b059757f1d01b11d9eca4aa3", func := "loop.example/wapentake/laws.FnExactSeeGold", spec := "fnExactSeeGold", apart := false }
def FnExactSeeGoldSaid : Prop := fnExactSeeGoldRow.holds Try.pinned (OpenSpec.ofChange fnExactSeeGoldSpec)

/-- ITS FALSE NEIGHBOUR: 'it returns false'. Refute it at one input. -/
def fnExactSeeGoldWrong : ChangeSpec := { name := "fnExactSeeGold", fn := fun _ => fun
  | [d] => { results := [.lit (.bool false)], args := [d] }
  | _ => none }
def FnExactSeeGoldWrongFalsely : Prop := fnExactSeeGoldRow.holds Try.pinned (OpenSpec.ofChange fnExactSeeGoldWrong)

/-- 'laws.FnSeeGold': WHATEVER THE INPUT: true; the input reads as it did. -/
def fnSeeGoldSpec : ChangeSpec := { name := "fnSeeGold", fn := fun _ => fun
  | [d1, d2] => { results := [.lit (.bool true)], args := [d1, d2] }
  | _ => none }
def fnSeeGoldRow : OpenClaim := { program := "ytkganikclbeplaa", sum := "48b89fec1e30183850919f59998df493db9b14c7b059757f1d01b11d9eca4aa3", func := "loop.example/wapentake/laws.FnSeeGold", spec := "fnSeeGold", inPlace := ["slices.overlaps[loop.example/wapentake/impl.Ent]"], unfollowed := true, recurses := true, apart := false }
def FnSeeGoldSaid : Prop := fnSeeGoldRow.holds Try.pinned (OpenSpec.ofChange fnSeeGoldSpec)

/-- ITS FALSE NEIGHBOUR: 'it returns false'. Refute it at one input. -/
def fnSeeGoldWrong : ChangeSpec := { name := "fnSeeGold", fn := fun _ => fun
  | [d1, d2] => { results := [.lit (.bool false)], args := [d1, d2] }
  | _ => none }
def FnSeeGoldWrongFalsely : Prop := fnSeeGoldRow.holds Try.pinned (OpenSpec.ofChange fnSeeGoldWrong)

/-- 'laws.FnGameDo': WHATEVER THE INPUT: true; the input reads as it did. -/
def fnGameDoSpec : ChangeSpec := { name := "fnGameDo", fn := fun _ => fun
  | [d] => { results := [.lit (.bool true)], args := [d] }
  | _ => none }
def fnGameDoRow : OpenClaim := { program := "ytkganikclbeplaa", sum := "48b89fec1e30183850919f59998df493db9b14c7b059757f1d01b11d9eca4aa3", func := "loop.example/wapentake/laws.FnGameDo", spec := "fnGameDo", inPlace := ["slices.overlaps[loop.example/wapentake/impl.Ent]"], unfollowed := true, recurses := true, apart := false }
def FnGameDoSaid : Prop := fnGameDoRow.holds Try.pinned (OpenSpec.ofChange fnGameDoSpec)

/-- ITS FALSE NEIGHBOUR: 'it returns false'. Refute it at one input. -/
def fnGameDoWrong : ChangeSpec := { name := "fnGameDo", fn := fun _ => fun
  | [d] => { results := [.lit (.bool false)], args := [d] }
  | _ => none }
def FnGameDoWrongFalsely : Prop := fnGameDoRow.holds Try.pinned (OpenSpec.ofChange fnGameDoWrong)

/-- 'laws.FnGameCode': WHATEVER THE INPUT: true; the input reads as it did. -/
def fnGameCodeSpec : ChangeSpec := { name := "fnGameCode", fn := fun _ => fun
  | [d] => { results := [.lit (.bool true)], args := [d] }
  | _ => none }
def fnGameCodeRow : OpenClaim := { program := "ytkganikclbeplaa", sum := "48b89fec1e30183850919f59998df493db9b14c7b059757f1d01b11d9eca4aa3", func := "loop.example/wapentake/laws.FnGameCode", spec := "fnGameCode", inPlace := ["slices.overlaps[loop.example/wapentake/impl.Ent]"], unfollowed := true, recurses := true, apart := false }
def FnGameCodeSaid : Prop := fnGameCodeRow.holds Try.pinned (OpenSpec.ofChange fnGameCodeSpec)

/-- ITS FALSE NEIGHBOUR: 'it returns false'. Refute it at one input. -/
def fnGameCodeWrong : ChangeSpec := { name := "fnGameCode", fn := fun _ => fun
  | [d] => { results := [.lit (.bool false)], args := [d] }
  | _ => none }
def FnGameCodeWrongFalsely : Prop := fnGameCodeRow.holds Try.pinned (OpenSpec.ofChange fnGameCodeWrong)

/- THE SECOND FORM. 'bulk': how many values and letters a reading holds, each counted each time it is reached (what is shared counts as often as it is met; a slice's spare places count too). A statement '..UptoSaid' is the law's where the arguments, and the package variables that the reading takes, are together of bulk at most 1048576: NARROWER than '..Said'. Prove '..Said' where nothing that the law and all that it calls make is longer than what came in: it says more and counts as full. Else prove '..UptoSaid'. A law counts once. -/
mutual
def uptoBulk {H : Type} : DataW H → Nat
  | .lit (.string bytes) => bytes.length + 1
  | .lit _ => 1
  | .nil => 1
  | .ptr d => uptoBulk d + 1
  | .slice elems spare => uptoBulkAll elems + uptoBulkAll spare + 1
  | .agg parts => uptoBulkAll parts + 1
  | .iface _ d => uptoBulk d + 1
  | .map entries => uptoBulkEntries entries + 1
  | .held _ => 1
def uptoBulkAll {H : Type} : List (DataW H) → Nat
  | [] => 0
  | d :: r => uptoBulk d + uptoBulkAll r
def uptoBulkEntries {H : Type} : List (Lit × DataW H) → Nat
  | [] => 0
  | x :: r => uptoBulkEntry x + uptoBulkEntries r
def uptoBulkEntry {H : Type} : Lit × DataW H → Nat
  | (.string bytes, d) => bytes.length + uptoBulk d + 1
  | (_, d) => uptoBulk d + 1
 end
def uptoSmall : (H : Type) → List (DataW H) → Bool := fun _ ds => decide (uptoBulkAll ds ≤ 1048576)
def OpenSpec.upto (s : _root_.Go.ChangeSpec) : _root_.Go.OpenSpec := { _root_.Go.OpenSpec.ofChange s with cond := some uptoSmall }

/-- 'laws.FnExactGameOk', WHERE WHAT IT READS IS OF BULK AT MOST 1048576: true; the input reads as it did. -/
def fnExactGameOkUptoRow : OpenClaim := { program := "ytkganikclbeplaa", sum := "48b89fec1e30183850919f59998df493db9b14c7b059757f1d01b11d9eca4aa3", func := "loop.example/wapentake/laws.FnExactGameOk", spec := "fnExactGameOk", apart := false, narrowed := true }
def FnExactGameOkUptoSaid : Prop := fnExactGameOkUptoRow.holds Try.pinned (OpenSpec.upto fnExactGameOkSpec)

/-- 'laws.FnExactSeeGold', WHERE WHAT IT READS IS OF BULK AT MOST 1048576: true; the input reads as it did. -/
def fnExactSeeGoldUptoRow : OpenClaim := { program := "ytkganikclbeplaa", sum := "48b89fec1e30183850919f59998df493db9b14c7b059757f1d01b11d9eca4aa3", func := "loop.example/wapentake/laws.FnExactSeeGold", spec := "fnExactSeeGold", apart := false, narrowed := true }
def FnExactSeeGoldUptoSaid : Prop := fnExactSeeGoldUptoRow.holds Try.pinned (OpenSpec.upto fnExactSeeGoldSpec)

/-- 'laws.FnSeeGold', WHERE WHAT IT READS IS OF BULK AT MOST 1048576: true; the input reads as it did. -/
def fnSeeGoldUptoRow : OpenClaim := { program := "ytkganikclbeplaa", sum := "48b89fec1e30183850919f59998df493db9b14c7b059757f1d01b11d9eca4aa3", func := "loop.example/wapentake/laws.FnSeeGold", spec := "fnSeeGold", inPlace := ["slices.overlaps[loop.example/wapentake/impl.Ent]"], unfollowed := true, recurses := true, apart := false, narrowed := true }
def FnSeeGoldUptoSaid : Prop := fnSeeGoldUptoRow.holds Try.pinned (OpenSpec.upto fnSeeGoldSpec)

/-- 'laws.FnGameDo', WHERE WHAT IT READS IS OF BULK AT MOST 1048576: true; the input reads as it did. -/
def fnGameDoUptoRow : OpenClaim := { program := "ytkganikclbeplaa", sum := "48b89fec1e30183850919f59998df493db9b14c7b059757f1d01b11d9eca4aa3", func := "loop.example/wapentake/laws.FnGameDo", spec := "fnGameDo", inPlace := ["slices.overlaps[loop.example/wapentake/impl.Ent]"], unfollowed := true, recurses := true, apart := false, narrowed := true }
def FnGameDoUptoSaid : Prop := fnGameDoUptoRow.holds Try.pinned (OpenSpec.upto fnGameDoSpec)

/-- 'laws.FnGameCode', WHERE WHAT IT READS IS OF BULK AT MOST 1048576: true; the input reads as it did. -/
def fnGameCodeUptoRow : OpenClaim := { program := "ytkganikclbeplaa", sum := "48b89fec1e30183850919f59998df493db9b14c7b059757f1d01b11d9eca4aa3", func := "loop.example/wapentake/laws.FnGameCode", spec := "fnGameCode", inPlace := ["slices.overlaps[loop.example/wapentake/impl.Ent]"], unfollowed := true, recurses := true, apart := false, narrowed := true }
def FnGameCodeUptoSaid : Prop := fnGameCodeUptoRow.holds Try.pinned (OpenSpec.upto fnGameCodeSpec)

end Rows
end Go.Proofs.Ytkganikclbeplaa
