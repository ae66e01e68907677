/-
  No cell of these rows narrows 'for every input' (looked for: loops, veiled, ifaces, maps, wideKeys, modest, calm, conditions, laid).
  DERIVED. THE GIVEN ROWS OF THIS SEAT. 7 by the template 'for every input the law returns true; each argument reads behind the call as it read before'; 0 by the template 'total and deterministic' (their statements: YtgbnoemoangofaaTotals.lean).
  GIVEN WITH THE SEED: the statements are not yours to turn. If you find one false, say at which input.
  Laid BY PROGRAM, IN A SANDBOX (cutbox-rows.mjs): the forced cells as the released guide's own fill.sh prints them over the translation 07404e472bdddf58… (all of the seat's roots in one cut). By AI agents, Wed Nov 11 2026. No macro, syntax, notation, axiom, sorry.
-/
import Derived.Test.YtgbnoemoangofaaChecked
import GoSem.Claim
import GoSem.ClaimJoined
import GoSem.ClaimMapViews
import Derived.JoinedTies
import Derived.KernelRfl
namespace Go.Proofs.Ytgbnoemoangofaa
/- THE CELL 'sum', in the pinned program and in every row, IS THE sha256 OF THE DUMP (.gsa) THAT YtgbnoemoangofaaProg.lean LOADS. Nothing in Lean hashes anything: it is a label: what it is worth is what the hold of that sum in a sandbox is worth. -/
noncomputable def Try.pinned : Pinned := { name := "ytgbnoemoangofaa", sum := "07404e472bdddf583e691f2dd62e430cee384cc57cb7873fe4a524af4d73025c", checked := Try.checked }
namespace Rows
def none {H : Type} : Left H := { results := [], args := [] }

/-- 'laws.FnCheckAdd': WHATEVER THE INPUT: true; the input reads as it did. -/
def fnCheckAddSpec : ChangeSpec := { name := "fnCheckAdd", fn := fun _ => fun
  | [d] => { results := [.lit (.bool true)], args := [d] }
  | _ => none }
def fnCheckAddRow : OpenClaim := { program := "ytgbnoemoangofaa", sum := "07404e472bdddf583e691f2dd62e430cee384cc57cb7873fe4a524af4d73025c", func := "loop.example/wapentake/laws.FnCheckAdd", spec := "fnCheckAdd", plainKeys := false, apart := false }
def FnCheckAddSaid : Prop := fnCheckAddRow.holds Try.pinned (OpenSpec.ofChange fnCheckAddSpec)

/-- ITS FALSE NEIGHBOUR: 'it returns false'. Refute it at one input. -/
def fnCheckAddWrong : ChangeSpec := { name := "fnCheckAdd", fn := fun _ => fun
  | [d] => { results := [.lit (.bool false)], args := [d] }
  | _ => none }
def FnCheckAddWrongFalsely : Prop := fnCheckAddRow.holds Try.pinned (OpenSpec.ofChange fnCheckAddWrong)

/-- 'laws.FnCheckStable': WHATEVER THE INPUT: true; the input reads as it did. -/
def fnCheckStableSpec : ChangeSpec := { name := "fnCheckStable", fn := fun _ => fun
  | [d] => { results := [.lit (.bool true)], args := [d] }
  | _ => none }
def fnCheckStableRow : OpenClaim := { program := "ytgbnoemoangofaa", sum := "07404e472bdddf583e691f2dd62e430cee384cc57cb7873fe4a524af4d73025c", func := "loop.example/wapentake/laws.FnCheckStable", spec := "fnCheckStable", plainKeys := false, apart := false }
def FnCheckStableSaid : Prop := fnCheckStableRow.holds Try.pinned (OpenSpec.ofChange fnCheckStableSpec)

/-- ITS FALSE NEIGHBOUR: 'it returns false'. Refute it at one input. -/
def fnCheckStableWrong : ChangeSpec := { name := "fnCheckStable", fn := fun _ => fun
  | [d] => { results := [.lit (.bool false)], args := [d] }
  | _ => none }
def FnCheckStableWrongFalsely : Prop := fnCheckStableRow.holds Try.pinned (OpenSpec.ofChange fnCheckStableWrong)

/-- 'laws.FnCheckCut': WHATEVER THE INPUT: true; the input reads as it did. -/
def fnCheckCutSpec : ChangeSpec := { name := "fnCheckCut", fn := fun _ => fun
  | [d] => { results := [.lit (.bool true)], args := [d] }
  | _ => none }
def fnCheckCutRow : OpenClaim := { program := "ytgbnoemoangofaa", sum := "07404e472bdddf583e691f2dd62e430cee384cc57cb7873fe4a524af4d73025c", func := "loop.example/wapentake/laws.FnCheckCut", spec := "fnCheckCut", plainKeys := false, apart := false }
def FnCheckCutSaid : Prop := fnCheckCutRow.holds Try.pinned (OpenSpec.ofChange fnCheckCutSpec)

/-- ITS FALSE NEIGHBOUR: 'it returns false'. Refute it at one input. -/
def fnCheckCutWrong : ChangeSpec := { name := "fnCheckCut", fn := fun _ => fun
  | [d] => { results := [.lit (.bool false)], args := [d] }
  | _ => none }
def FnCheckCutWrongFalsely : Prop := fnCheckCutRow.holds Try.pinned (OpenSpec.ofChange fnCheckCutWrong)

/-- 'laws.FnExactCheckOk': WHATEVER THE INPUT: true; the input reads as it did. -/
def fnExactCheckOkSpec : ChangeSpec := { name := "fnExactCheckOk", fn := fun _ => fun
  | [d] => { results := [.lit (.bool true)], args := [d] }
  | _ => none }
def fnExactCheckOkRow : OpenClaim := { program := "ytgbnoemoangofaa", sum := "07404e472bdddf583e691f2dd62e430cee384cc57cb7873fe4a524af4d73025c", func := "loop.example/wapentake/laws.FnExactCheckOk", spec := "fnExactCheckOk", plainKeys := false, apart := false }
def FnExactCheckOkSaid : Prop := fnExactCheckOkRow.holds Try.pinned (OpenSpec.ofChange fnExactCheckOkSpec)

/-- ITS FALSE NEIGHBOUR: 'it returns false'. Refute it at one input. -/
def fnExactCheckOkWrong : ChangeSpec := { name := "fnExactCheckOk", fn := fun _ => fun
  | [d] => { results := [.lit (.bool false)], args := [d] }
  | _ => none }
def FnExactCheckOkWrongFalsely : Prop := fnExactCheckOkRow.holds Try.pinned (OpenSpec.ofChange fnExactCheckOkWrong)

/-- 'laws.FnExactCheckAdd': WHATEVER THE INPUT: true; the input reads as it did. -/
def fnExactCheckAddSpec : ChangeSpec := { name := "fnExactCheckAdd", fn := fun _ => fun
  | [d1, d2] => { results := [.lit (.bool true)], args := [d1, d2] }
  | _ => none }
def fnExactCheckAddRow : OpenClaim := { program := "ytgbnoemoangofaa", sum := "07404e472bdddf583e691f2dd62e430cee384cc57cb7873fe4a524af4d73025c", func := "loop.example/wapentake/laws.FnExactCheckAdd", spec := "fnExactCheckAdd", plainKeys := false, apart := false }
def FnExactCheckAddSaid : Prop := fnExactCheckAddRow.holds Try.pinned (OpenSpec.ofChange fnExactCheckAddSpec)

/-- ITS FALSE NEIGHBOUR: 'it returns false'. Refute it at one input. -/
def fnExactCheckAddWrong : ChangeSpec := { name := "fnExactCheckAdd", fn := fun _ => fun
  | [d1, d2] => { results := [.lit (.bool false)], args := [d1, d2] }
  | _ => none }
def FnExactCheckAddWrongFalsely : Prop := fnExactCheckAddRow.holds Try.pinned (OpenSpec.ofChange fnExactCheckAddWrong)

/-- 'laws.FnExactCheckStable': WHATEVER THE INPUT: true; the input reads as it did. -/
def fnExactCheckStableSpec : ChangeSpec := { name := "fnExactCheckStable", fn := fun _ => fun
  | [d] => { results := [.lit (.bool true)], args := [d] }
  | _ => none }
def fnExactCheckStableRow : OpenClaim := { program := "ytgbnoemoangofaa", sum := "07404e472bdddf583e691f2dd62e430cee384cc57cb7873fe4a524af4d73025c", func := "loop.example/wapentake/laws.FnExactCheckStable", spec := "fnExactCheckStable", plainKeys := false, apart := false }
def FnExactCheckStableSaid : Prop := fnExactCheckStableRow.holds Try.pinned (OpenSpec.ofChange fnExactCheckStableSpec)

/-- ITS FALSE NEIGHBOUR: 'it returns false'. Refute it at one input. -/
def fnExactCheckStableWrong : ChangeSpec := { name := "fnExactCheckStable", fn := fun _ => fun
  | [d] => { results := [.lit (.bool false)], args := [d] }
  | _ => none }
def FnExactCheckStableWrongFalsely : Prop := fnExactCheckStableRow.holds Try.pinned (OpenSpec.ofChange fnExactCheckStableWrong)

/-- 'laws.FnExactCheckCut': WHATEVER THE INPUT: true; the input reads as it did. -/
def fnExactCheckCutSpec : ChangeSpec := { name := "fnExactCheckCut", fn := fun _ => fun
  | [d1, d2] => { results := [.lit (.bool true)], args := [d1, d2] }
  | _ => none }
def fnExactCheckCutRow : OpenClaim := { program := "ytgbnoemoangofaa", sum := "07404e472bdddf583e691f2dd62e430cee384cc57cb7873fe4a524af4d73025c", func := "loop.example/wapentake/laws.FnExactCheckCut", spec := "fnExactCheckCut", plainKeys := false, apart := false }
def FnExactCheckCutSaid : Prop := fnExactCheckCutRow.holds Try.pinned (OpenSpec.ofChange fnExactCheckCutSpec)

/-- ITS FALSE NEIGHBOUR: 'it returns false'. Refute it at one input. -/
def fnExactCheckCutWrong : ChangeSpec := { name := "fnExactCheckCut", fn := fun _ => fun
  | [d1, d2] => { results := [.lit (.bool false)], args := [d1, d2] }
  | _ => none }
def FnExactCheckCutWrongFalsely : Prop := fnExactCheckCutRow.holds Try.pinned (OpenSpec.ofChange fnExactCheckCutWrong)

/- THE SECOND FORM. 'bulk': how many values and letters a reading holds, each counted each time it is reached (what is shared counts as often as it is met; a slice's spare places count too). A statement '..UptoSaid' is the law's where the arguments, and the package variables that the reading takes, are together of bulk at most 1048576: NARROWER than '..Said'. Prove '..Said' where nothing that the law and all that it calls make is longer than what came in: it says more and counts as full. Else prove '..UptoSaid'. A law counts once. -/
mutual
def uptoBulk {H : Type} : DataW H → Nat
  | .lit (.string bytes) => bytes.length + 1
  | .lit _ => 1
  | .nil => 1
  | .ptr d => uptoBulk d + 1
  | .slice elems spare => uptoBulkAll elems + uptoBulkAll spare + 1
  | .agg parts => uptoBulkAll parts + 1
  | .iface _ d => uptoBulk d + 1
  | .map entries => uptoBulkEntries entries + 1
  | .held _ => 1
def uptoBulkAll {H : Type} : List (DataW H) → Nat
  | [] => 0
  | d :: r => uptoBulk d + uptoBulkAll r
def uptoBulkEntries {H : Type} : List (Lit × DataW H) → Nat
  | [] => 0
  | x :: r => uptoBulkEntry x + uptoBulkEntries r
def uptoBulkEntry {H : Type} : Lit × DataW H → Nat
  | (.string bytes, d) => bytes.length + uptoBulk d + 1
  | (_, d) => uptoBulk d + 1
 end
def uptoSmall : (H : Type) → List (DataW H) → Bool := fun _ ds => decide (uptoBulkAll ds ≤ 1048576)
def OpenSpec.upto (s : _root_.Go.ChangeSpec) : _root_.Go.OpenSpec := { _root_.Go.OpenSpec.ofChange s with cond := some uptoSmall }

/-- 'laws.FnCheckAdd', WHERE WHAT IT READS IS OF BULK AT MOST 1048576: true; the input reads as it did. -/
def fnCheckAddUptoRow : OpenClaim := { program := "ytgbnoemoangofaa", sum := "07404e472bdddf583e691f2dd62e430cee384cc57cb7873fe4a524af4d73025c", func := "loop.example/wapentake/laws.FnCheckAdd", spec := "fnCheckAdd", plainKeys := false, apart := false, narrowed := true }
def FnCheckAddUptoSaid : Prop := fnCheckAddUptoRow.holds Try.pinned (OpenSpec.upto fnCheckAddSpec)

/-- 'laws.FnCheckStable', WHERE WHAT IT READS IS OF BULK AT MOST 1048576: true; the input reads as it did. -/
def fnCheckStableUptoRow : OpenClaim := { program := "ytgbnoemoangofaa", sum := "07404e472bdddf583e691f2dd62e430cee384cc57cb7873fe4a524af4d73025c", func := "loop.example/wapentake/laws.FnCheckStable", spec := "fnCheckStable", plainKeys := false, apart := false, narrowed := true }
def FnCheckStableUptoSaid : Prop := fnCheckStableUptoRow.holds Try.pinned (OpenSpec.upto fnCheckStableSpec)

/-- 'laws.FnCheckCut', WHERE WHAT IT READS IS OF BULK AT MOST 1048576: true; the input reads as it did. -/
def fnCheckCutUptoRow : OpenClaim := { program := "ytgbnoemoangofaa", sum := "07404e472bdddf583e691f2dd62e430cee384cc57cb7873fe4a524af4d73025c", func := "loop.example/wapentake/laws.FnCheckCut", spec := "fnCheckCut", plainKeys := false, apart := false, narrowed := true }
def FnCheckCutUptoSaid : Prop := fnCheckCutUptoRow.holds Try.pinned (OpenSpec.upto fnCheckCutSpec)

/-- 'laws.FnExactCheckOk', WHERE WHAT IT READS IS OF BULK AT MOST 1048576: true; the input reads as it did. -/
def fnExactCheckOkUptoRow : OpenClaim := { program := "ytgbnoemoangofaa", sum := "07404e472bdddf583e691f2dd62e430cee384cc57cb7873fe4a524af4d73025c", func := "loop.example/wapentake/laws.FnExactCheckOk", spec := "fnExactCheckOk", plainKeys := false, apart := false, narrowed := true }
def FnExactCheckOkUptoSaid : Prop := fnExactCheckOkUptoRow.holds Try.pinned (OpenSpec.upto fnExactCheckOkSpec)

/-- 'laws.FnExactCheckAdd', WHERE WHAT IT READS IS OF BULK AT MOST 1048576: true; the input reads as it did. -/
def fnExactCheckAddUptoRow : OpenClaim := { program := "ytgbnoemoangofaa", sum := "07404e472bdddf583e691f2dd62e430cee384cc57cb7873fe4a524af4d73025c", func := "loop.example/wapentake/laws.FnExactCheckAdd", spec := "fnExactCheckAdd", plainKeys := false, apart := false, narrowed := true }
def FnExactCheckAddUptoSaid : Prop := fnExactCheckAddUptoRow.holds Try.pinned (OpenSpec.upto fnExactCheckAddSpec)

/-- 'laws.FnExactCheckStable', WHERE WHAT IT READS IS OF BULK AT MOST 1048576: true; the input reads as it did. -/
def fnExactCheckStableUptoRow : OpenClaim := { program := "ytgbnoemoangofaa", sum := "07404e472bdddf583e691f2dd62e430cee384cc57cb7873fe4a524af4d73025c", func := "loop.example/wapentake/laws.FnExactCheckStable", spec := "fnExactCheckStable", plainKeys := false, apart := false, narrowed := true }
def FnExactCheckStableUptoSaid : Prop := fnExactCheckStableUptoRow.holds Try.pinned (OpenSpec.upto fnExactCheckStableSpec)

/-- 'laws.FnExactCheckCut', WHERE WHAT IT READS IS OF BULK AT MOST 1048576: true; the input reads as it did. -/
def fnExactCheckCutUptoRow : OpenClaim := { program := "ytgbnoemoangofaa", sum := "07404e472bdddf583e691f2dd62e430cee384cc57cb7873fe4a524af4d73025c", func := "loop.example/wapentake/laws.FnExactCheckCut", spec := "fnExactCheckCut", plainKeys := false, apart := false, narrowed := true }
def FnExactCheckCutUptoSaid : Prop := fnExactCheckCutUptoRow.holds Try.pinned (OpenSpec.upto fnExactCheckCutSpec)

end Rows
end Go.Proofs.Ytgbnoemoangofaa
