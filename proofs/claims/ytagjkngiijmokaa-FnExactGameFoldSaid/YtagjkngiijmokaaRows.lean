/-
  No cell of these rows narrows 'for every input' (looked for: loops, veiled, ifaces, maps, wideKeys, modest, calm, conditions, laid).
  DERIVED. THE GIVEN ROWS OF THIS SEAT. 3 by the template 'for every input the law returns true; each argument reads behind the call as it read before'; 0 by the template 'total and deterministic' (their statements: YtagjkngiijmokaaTotals.lean).
  GIVEN WITH THE SEED: the statements are not yours to turn. If you find one false, say at which input.
  Laid BY PROGRAM, IN A SANDBOX (cutbox-rows.mjs): the forced cells as the released guide's own fill.sh prints them over the translation 514c7ab3db00fbbb… (all of the seat's roots in one cut). By AI agents, Wed Nov 11 2026. No macro, syntax, notation, axiom, sorry.
-/
import Derived.Test.YtagjkngiijmokaaChecked
import GoSem.Claim
import GoSem.ClaimJoined
import GoSem.ClaimMapViews
import Derived.JoinedTies
import Derived.KernelRfl
namespace Go.Proofs.Ytagjkngiijmokaa
/- THE CELL 'sum', in the pinned program and in every row, IS THE sha256 OF THE DUMP (.gsa) THAT YtagjkngiijmokaaProg.lean LOADS. Nothing in Lean hashes anything: it is a label: what it is worth is what the hold of that sum in a sandbox is worth. -/
noncomputable def Try.pinned : Pinned := { name := "ytagjkngiijmokaa", sum := "514c7ab3db00fbbb65e9a53eba82af39f13a19c164e2e3dbd930a973d69c1397", checked := Try.checked }
namespace Rows
def none {H : Type} : Left H := { results := [], args := [] }

/-- 'laws.FnGameFold': WHATEVER THE INPUT: true; the input reads as it did. -/
def fnGameFoldSpec : ChangeSpec := { name := "fnGameFold", fn := fun _ => fun
  | [d1, d2] => { results := [.lit (.bool true)], args := [d1, d2] }
  | _ => none }
def fnGameFoldRow : OpenClaim := { program := "ytagjkngiijmokaa", sum := "514c7ab3db00fbbb65e9a53eba82af39f13a19c164e2e3dbd930a973d69c1397", func := "loop.example/wapentake/laws.FnGameFold", spec := "fnGameFold", inPlace := ["slices.overlaps[loop.example/wapentake/impl.Ent]"], unfollowed := true, recurses := true, apart := false }
def FnGameFoldSaid : Prop := fnGameFoldRow.holds Try.pinned (OpenSpec.ofChange fnGameFoldSpec)

/-- ITS FALSE NEIGHBOUR: 'it returns false'. Refute it at one input. -/
def fnGameFoldWrong : ChangeSpec := { name := "fnGameFold", fn := fun _ => fun
  | [d1, d2] => { results := [.lit (.bool false)], args := [d1, d2] }
  | _ => none }
def FnGameFoldWrongFalsely : Prop := fnGameFoldRow.holds Try.pinned (OpenSpec.ofChange fnGameFoldWrong)

/-- 'laws.FnExactGameDo': WHATEVER THE INPUT: true; the input reads as it did. -/
def fnExactGameDoSpec : ChangeSpec := { name := "fnExactGameDo", fn := fun _ => fun
  | [d1, d2] => { results := [.lit (.bool true)], args := [d1, d2] }
  | _ => none }
def fnExactGameDoRow : OpenClaim := { program := "ytagjkngiijmokaa", sum := "514c7ab3db00fbbb65e9a53eba82af39f13a19c164e2e3dbd930a973d69c1397", func := "loop.example/wapentake/laws.FnExactGameDo", spec := "fnExactGameDo", inPlace := ["slices.overlaps[loop.example/wapentake/impl.Ent]"], unfollowed := true, recurses := true, apart := false }
def FnExactGameDoSaid : Prop := fnExactGameDoRow.holds Try.pinned (OpenSpec.ofChange fnExactGameDoSpec)

/-- ITS FALSE NEIGHBOUR: 'it returns false'. Refute it at one input. -/
def fnExactGameDoWrong : ChangeSpec := { name := "fnExactGameDo", fn := fun _ => fun
  | [d1, d2] => { results := [.lit (.bool false)], args := [d1, d2] }
  | _ => none }
def FnExactGameDoWrongFalsely : Prop := fnExactGameDoRow.holds Try.pinned (OpenSpec.ofChange fnExactGameDoWrong)

/-- 'laws.FnExactGameFold': WHATEVER THE INPUT: true; the input reads as it did. -/
def fnExactGameFoldSpec : ChangeSpec := { name := "fnExactGameFold", fn := fun _ => fun
  | [d] => { results := [.lit (.bool true)], args := [d] }
  | _ => none }
def fnExactGameFoldRow : OpenClaim := { program := "ytagjkngiijmokaa", sum := "514c7ab3db00fbbb65e9a53eba82af39f13a19c164e2e3dbd930a973d69c1397", func := "loop.example/wapentake/laws.FnExactGameFold", spec := "fnExactGameFold", inPlace := ["slices.overlaps[loop.example/wapentake/impl.Ent]"], unfollowed := true, recurses := true, apart := false }
def FnExactGameFoldSaid : Prop := fnExactGameFoldRow.holds Try.pinned (OpenSpec.ofChange fnExactGameFoldSpec)

/-- ITS FALSE NEIGHBOUR: 'it returns false'. Refute it at one input. -/
def fnExactGameFoldWrong : ChangeSpec := { name := "fnExactGameFold", fn := fun _ => fun
  | [d] => { results := [.lit (.bool false)], args := [d] }
  | _ => none }
def FnExactGameFoldWrongFalsely : Prop := fnExactGameFoldRow.holds Try.pinned (OpenSpec.ofChange fnExactGameFoldWrong)

/- THE SECOND FORM. 'bulk': how many values and letters a reading holds, each counted each time it is reached (what is shared counts as often as it is met; a slice's spare places count too). A statement '..UptoSaid' is the law's where the arguments, and the package variables that the reading takes, are together of bulk at most 1048576: NARROWER than '..Said'. Prove '..Said' where nothing that the law and all that it calls make is longer than what came in: it says more and counts as full. Else prove '..UptoSaid'. A law counts once. -/
mutual
def uptoBulk {H : Type} : DataW H → Nat
  | .lit (.string bytes) => bytes.length + 1
  | .lit _ => 1
  | .nil => 1
  | .ptr d => uptoBulk d + 1
  | .slice elems spare => uptoBulkAll elems + uptoBulkAll spare + 1
  | .agg parts => uptoBulkAll parts + 1
  | .iface _ d => uptoBulk d + 1
  | .map entries => uptoBulkEntries entries + 1
  | .held _ => 1
def uptoBulkAll {H : Type} : List (DataW H) → Nat
  | [] => 0
  | d :: r => uptoBulk d + uptoBulkAll r
def uptoBulkEntries {H : Type} : List (Lit × DataW H) → Nat
  | [] => 0
  | x :: r => uptoBulkEntry x + uptoBulkEntries r
def uptoBulkEntry {H : Type} : Lit × DataW H → Nat
  | (.string bytes, d) => bytes.length + uptoBulk d + 1
  | (_, d) => uptoBulk d + 1
 end
def uptoSmall : (H : Type) → List (DataW H) → Bool := fun _ ds => decide (uptoBulkAll ds ≤ 1048576)
def OpenSpec.upto (s : _root_.Go.ChangeSpec) : _root_.Go.OpenSpec := { _root_.Go.OpenSpec.ofChange s with cond := some uptoSmall }

/-- 'laws.FnGameFold', WHERE WHAT IT READS IS OF BULK AT MOST 1048576: true; the input reads as it did. -/
def fnGameFoldUptoRow : OpenClaim := { program := "ytagjkngiijmokaa", sum := "514c7ab3db00fbbb65e9a53eba82af39f13a19c164e2e3dbd930a973d69c1397", func := "loop.example/wapentake/laws.FnGameFold", spec := "fnGameFold", inPlace := ["slices.overlaps[loop.example/wapentake/impl.Ent]"], unfollowed := true, recurses := true, apart := false, narrowed := true }
def FnGameFoldUptoSaid : Prop := fnGameFoldUptoRow.holds Try.pinned (OpenSpec.upto fnGameFoldSpec)

/-- 'laws.FnExactGameDo', WHERE WHAT IT READS IS OF BULK AT MOST 1048576: true; the input reads as it did. -/
def fnExactGameDoUptoRow : OpenClaim := { program := "ytagjkngiijmokaa", sum := "514c7ab3db00fbbb65e9a53eba82af39f13a19c164e2e3dbd930a973d69c1397", func := "loop.example/wapentake/laws.FnExactGameDo", spec := "fnExactGameDo", inPlace := ["slices.overlaps[loop.example/wapentake/impl.Ent]"], unfollowed := true, recurses := true, apart := false, narrowed := true }
def FnExactGameDoUptoSaid : Prop := fnExactGameDoUptoRow.holds Try.pinned (OpenSpec.upto fnExactGameDoSpec)

/-- 'laws.FnExactGameFold', WHERE WHAT IT READS IS OF BULK AT MOST 1048576: true; the input reads as it did. -/
def fnExactGameFoldUptoRow : OpenClaim := { program := "ytagjkngiijmokaa", sum := "514c7ab3db00fbbb65e9a53eba82af39f13a19c164e2e3dbd930a973d69c1397", func := "loop.example/wapentake/laws.FnExactGameFold", spec := "fnExactGameFold", inPlace := ["slices.overlaps[loop.example/wapentake/impl.Ent]"], unfollowed := true, recurses := true, apart := false, narrowed := true }
def FnExactGameFoldUptoSaid : Prop := fnExactGameFoldUptoRow.holds Try.pinned (OpenSpec.upto fnExactGameFoldSpec)

end Rows
end Go.Proofs.Ytagjkngiijmokaa
