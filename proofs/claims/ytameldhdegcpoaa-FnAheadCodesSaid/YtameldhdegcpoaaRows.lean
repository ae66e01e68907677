/-
  No cell of these rows narrows 'for every input' (looked for: loops, veiled, ifaces, maps, wideKeys, modest, calm, conditions, laid).
  DERIVED. THE GIVEN ROWS OF THIS SEAT. 8 by the template 'for every input the law returns true; each argument reads behind the call as it read before'; 0 by the template 'total and deterministic' (their statements: YtameldhdegcpoaaTotals.lean).
  GIVEN WITH THE SEED: the statements are not yours to turn. If you find one false, say at which input.
  Laid BY PROGRAM, IN A SANDBOX (cutbox-rows.mjs): the forced cells as the released guide's own fill.sh prints them over the translation d619f575792cfcde… (all of the seat's roots in one cut). By AI agents, Wed Nov 11 2026. No macro, syntax, notation, axiom, sorry.
-/
import Derived.Test.YtameldhdegcpoaaChecked
import GoSem.Claim
import GoSem.ClaimJoined
import GoSem.ClaimMapViews
import Derived.JoinedTies
import Derived.KernelRfl
namespace Go.Proofs.Ytameldhdegcpoaa
/- THE CELL 'sum', in the pinned program and in every row, IS THE sha256 OF THE DUMP (.gsa) THAT YtameldhdegcpoaaProg.lean LOADS. Nothing in Lean hashes anything: it is a label: what it is worth is what the hold of that sum in a sandbox is worth. -/
noncomputable def Try.pinned : Pinned := { name := "ytameldhdegcpoaa", sum := "d619f575792cfcde7dfae156f886de753bf36dab99a0db119094356f1ddfc255", checked := Try.checked }
namespace Rows
def none {H : Type} : Left H := { results := [], args := [] }

/-- 'laws.FnExactAheadGame': WHATEVER THE INPUT: true; the input reads as it did. -/
def fnExactAheadGameSpec : ChangeSpec := { name := "fnExactAheadGame", fn := fun _ => fun
  | [d] => { results := [.lit (.bool true)], args := [d] }
  | _ => none }
def fnExactAheadGameRow : OpenClaim := { program := "ytameldhdegcpoaa", sum := "d619f575792cfcde7dfae156f886de753bf36dab99a0db119094356f1ddfc255", func := "loop.example/wapentake/laws.FnExactAheadGame", spec := "fnExactAheadGame", inPlace := ["slices.overlaps[loop.example/wapentake/impl.Ent]"], unfollowed := true, recurses := true, apart := false }
def FnExactAheadGameSaid : Prop := fnExactAheadGameRow.holds Try.pinned (OpenSpec.ofChange fnExactAheadGameSpec)

/-- ITS FALSE NEIGHBOUR: 'it returns false'. Refute it at one input. -/
def fnExactAheadGameWrong : ChangeSpec := { name := "fnExactAheadGame", fn := fun _ => fun
  | [d] => { results := [.lit (.bool false)], args := [d] }
  | _ => none }
def FnExactAheadGameWrongFalsely : Prop := fnExactAheadGameRow.holds Try.pinned (OpenSpec.ofChange fnExactAheadGameWrong)

/-- 'laws.FnExactAheadSure': WHATEVER THE INPUT: true; the input reads as it did. -/
def fnExactAheadSureSpec : ChangeSpec := { name := "fnExactAheadSure", fn := fun _ => fun
  | [d] => { results := [.lit (.bool true)], args := [d] }
  | _ => none }
def fnExactAheadSureRow : OpenClaim := { program := "ytameldhdegcpoaa", sum := "d619f575792cfcde7dfae156f886de753bf36dab99a0db119094356f1ddfc255", func := "loop.example/wapentake/laws.FnExactAheadSure", spec := "fnExactAheadSure", inPlace := ["slices.overlaps[loop.example/wapentake/impl.Ent]"], unfollowed := true, recurses := true, apart := false }
def FnExactAheadSureSaid : Prop := fnExactAheadSureRow.holds Try.pinned (OpenSpec.ofChange fnExactAheadSureSpec)

/-- ITS FALSE NEIGHBOUR: 'it returns false'. Refute it at one input. -/
def fnExactAheadSureWrong : ChangeSpec := { name := "fnExactAheadSure", fn := fun _ => fun
  | [d] => { results := [.lit (.bool false)], args := [d] }
  | _ => none }
def FnExactAheadSureWrongFalsely : Prop := fnExactAheadSureRow.holds Try.pinned (OpenSpec.ofChange fnExactAheadSureWrong)

/-- 'laws.FnExactAheadCodes': WHATEVER THE INPUT: true; the input reads as it did. -/
def fnExactAheadCodesSpec : ChangeSpec := { name := "fnExactAheadCodes", fn := fun _ => fun
  | [d] => { results := [.lit (.bool true)], args := [d] }
  | _ => none }
def fnExactAheadCodesRow : OpenClaim := { program := "ytameldhdegcpoaa", sum := "d619f575792cfcde7dfae156f886de753bf36dab99a0db119094356f1ddfc255", func := "loop.example/wapentake/laws.FnExactAheadCodes", spec := "fnExactAheadCodes", inPlace := ["slices.overlaps[loop.example/wapentake/impl.Ent]"], unfollowed := true, recurses := true, apart := false }
def FnExactAheadCodesSaid : Prop := fnExactAheadCodesRow.holds Try.pinned (OpenSpec.ofChange fnExactAheadCodesSpec)

/-- ITS FALSE NEIGHBOUR: 'it returns false'. Refute it at one input. -/
def fnExactAheadCodesWrong : ChangeSpec := { name := "fnExactAheadCodes", fn := fun _ => fun
  | [d] => { results := [.lit (.bool false)], args := [d] }
  | _ => none }
def FnExactAheadCodesWrongFalsely : Prop := fnExactAheadCodesRow.holds Try.pinned (OpenSpec.ofChange fnExactAheadCodesWrong)

/-- 'laws.FnAheadSure': WHATEVER THE INPUT: true; the input reads as it did. -/
def fnAheadSureSpec : ChangeSpec := { name := "fnAheadSure", fn := fun _ => fun
  | [d] => { results := [.lit (.bool true)], args := [d] }
  | _ => none }
def fnAheadSureRow : OpenClaim := { program := "ytameldhdegcpoaa", sum := "d619f575792cfcde7dfae156f886de753bf36dab99a0db119094356f1ddfc255", func := "loop.example/wapentake/laws.FnAheadSure", spec := "fnAheadSure", inPlace := ["slices.overlaps[loop.example/wapentake/impl.Ent]"], unfollowed := true, recurses := true, apart := false }
def FnAheadSureSaid : Prop := fnAheadSureRow.holds Try.pinned (OpenSpec.ofChange fnAheadSureSpec)

/-- ITS FALSE NEIGHBOUR: 'it returns false'. Refute it at one input. -/
def fnAheadSureWrong : ChangeSpec := { name := "fnAheadSure", fn := fun _ => fun
  | [d] => { results := [.lit (.bool false)], args := [d] }
  | _ => none }
def FnAheadSureWrongFalsely : Prop := fnAheadSureRow.holds Try.pinned (OpenSpec.ofChange fnAheadSureWrong)

/-- 'laws.FnAheadPush': WHATEVER THE INPUT: true; the input reads as it did. -/
def fnAheadPushSpec : ChangeSpec := { name := "fnAheadPush", fn := fun _ => fun
  | [d] => { results := [.lit (.bool true)], args := [d] }
  | _ => none }
def fnAheadPushRow : OpenClaim := { program := "ytameldhdegcpoaa", sum := "d619f575792cfcde7dfae156f886de753bf36dab99a0db119094356f1ddfc255", func := "loop.example/wapentake/laws.FnAheadPush", spec := "fnAheadPush", inPlace := ["slices.overlaps[loop.example/wapentake/impl.Ent]"], unfollowed := true, recurses := true, apart := false }
def FnAheadPushSaid : Prop := fnAheadPushRow.holds Try.pinned (OpenSpec.ofChange fnAheadPushSpec)

/-- ITS FALSE NEIGHBOUR: 'it returns false'. Refute it at one input. -/
def fnAheadPushWrong : ChangeSpec := { name := "fnAheadPush", fn := fun _ => fun
  | [d] => { results := [.lit (.bool false)], args := [d] }
  | _ => none }
def FnAheadPushWrongFalsely : Prop := fnAheadPushRow.holds Try.pinned (OpenSpec.ofChange fnAheadPushWrong)

/-- 'laws.FnAheadKeep': WHATEVER THE INPUT: true; the input reads as it did. -/
def fnAheadKeepSpec : ChangeSpec := { name := "fnAheadKeep", fn := fun _ => fun
  | [d] => { results := [.lit (.bool true)], args := [d] }
  | _ => none }
def fnAheadKeepRow : OpenClaim := { program := "ytameldhdegcpoaa", sum := "d619f575792cfcde7dfae156f886de753bf36dab99a0db119094356f1ddfc255", func := "loop.example/wapentake/laws.FnAheadKeep", spec := "fnAheadKeep", inPlace := ["slices.overlaps[loop.example/wapentake/impl.Ent]"], unfollowed := true, recurses := true, apart := false }
def FnAheadKeepSaid : Prop := fnAheadKeepRow.holds Try.pinned (OpenSpec.ofChange fnAheadKeepSpec)

/-- ITS FALSE NEIGHBOUR: 'it returns false'. Refute it at one input. -/
def fnAheadKeepWrong : ChangeSpec := { name := "fnAheadKeep", fn := fun _ => fun
  | [d] => { results := [.lit (.bool false)], args := [d] }
  | _ => none }
def FnAheadKeepWrongFalsely : Prop := fnAheadKeepRow.holds Try.pinned (OpenSpec.ofChange fnAheadKeepWrong)

/-- 'laws.FnAheadAll': WHATEVER THE INPUT: true; the input reads as it did. -/
def fnAheadAllSpec : ChangeSpec := { name := "fnAheadAll", fn := fun _ => fun
  | [d] => { results := [.lit (.bool true)], args := [d] }
  | _ => none }
def fnAheadAllRow : OpenClaim := { program := "ytameldhdegcpoaa", sum := "d619f575792cfcde7dfae156f886de753bf36dab99a0db119094356f1ddfc255", func := "loop.example/wapentake/laws.FnAheadAll", spec := "fnAheadAll", inPlace := ["slices.overlaps[loop.example/wapentake/impl.Ent]"], unfollowed := true, recurses := true, apart := false }
def FnAheadAllSaid : Prop := fnAheadAllRow.holds Try.pinned (OpenSpec.ofChange fnAheadAllSpec)

/-- ITS FALSE NEIGHBOUR: 'it returns false'. Refute it at one input. -/
def fnAheadAllWrong : ChangeSpec := { name := "fnAheadAll", fn := fun _ => fun
  | [d] => { results := [.lit (.bool false)], args := [d] }
  | _ => none }
def FnAheadAllWrongFalsely : Prop := fnAheadAllRow.holds Try.pinned (OpenSpec.ofChange fnAheadAllWrong)

/-- 'laws.FnAheadCodes': WHATEVER THE INPUT: true; the input reads as it did. -/
def fnAheadCodesSpec : ChangeSpec := { name := "fnAheadCodes", fn := fun _ => fun
  | [d] => { results := [.lit (.bool true)], args := [d] }
  | _ => none }
def fnAheadCodesRow : OpenClaim := { program := "ytameldhdegcpoaa", sum := "d619f575792cfcde7dfae156f886de753bf36dab99a0db119094356f1ddfc255", func := "loop.example/wapentake/laws.FnAheadCodes", spec := "fnAheadCodes", inPlace := ["slices.overlaps[loop.example/wapentake/impl.Ent]"], unfollowed := true, recurses := true, apart := false }
def FnAheadCodesSaid : Prop := fnAheadCodesRow.holds Try.pinned (OpenSpec.ofChange fnAheadCodesSpec)

/-- ITS FALSE NEIGHBOUR: 'it returns false'. Refute it at one input. -/
def fnAheadCodesWrong : ChangeSpec := { name := "fnAheadCodes", fn := fun _ => fun
  | [d] => { results := [.lit (.bool false)], args := [d] }
  | _ => none }
def FnAheadCodesWrongFalsely : Prop := fnAheadCodesRow.holds Try.pinned (OpenSpec.ofChange fnAheadCodesWrong)

/- THE SECOND FORM. 'bulk': how many values and letters a reading holds, each counted each time it is reached (what is shared counts as often as it is met; a slice's spare places count too). A statement '..UptoSaid' is the law's where the arguments, and the package variables that the reading takes, are together of bulk at most 1048576: NARROWER than '..Said'. Prove '..Said' where nothing that the law and all that it calls make is longer than what came in: it says more and counts as full. Else prove '..UptoSaid'. A law counts once. -/
mutual
def uptoBulk {H : Type} : DataW H → Nat
  | .lit (.string bytes) => bytes.length + 1
  | .lit _ => 1
  | .nil => 1
  | .ptr d => uptoBulk d + 1
  | .slice elems spare => uptoBulkAll elems + uptoBulkAll spare + 1
  | .agg parts => uptoBulkAll parts + 1
  | .iface _ d => uptoBulk d + 1
  | .map entries => uptoBulkEntries entries + 1
  | .held _ => 1
def uptoBulkAll {H : Type} : List (DataW H) → Nat
  | [] => 0
  | d :: r => uptoBulk d + uptoBulkAll r
def uptoBulkEntries {H : Type} : List (Lit × DataW H) → Nat
  | [] => 0
  | x :: r => uptoBulkEntry x + uptoBulkEntries r
def uptoBulkEntry {H : Type} : Lit × DataW H → Nat
  | (.string bytes, d) => bytes.length + uptoBulk d + 1
  | (_, d) => uptoBulk d + 1
 end
def uptoSmall : (H : Type) → List (DataW H) → Bool := fun _ ds => decide (uptoBulkAll ds ≤ 1048576)
def OpenSpec.upto (s : _root_.Go.ChangeSpec) : _root_.Go.OpenSpec := { _root_.Go.OpenSpec.ofChange s with cond := some uptoSmall }

/-- 'laws.FnExactAheadGame', WHERE WHAT IT READS IS OF BULK AT MOST 1048576: true; the input reads as it did. -/
def fnExactAheadGameUptoRow : OpenClaim := { program := "ytameldhdegcpoaa", sum := "d619f575792cfcde7dfae156f886de753bf36dab99a0db119094356f1ddfc255", func := "loop.example/wapentake/laws.FnExactAheadGame", spec := "fnExactAheadGame", inPlace := ["slices.overlaps[loop.example/wapentake/impl.Ent]"], unfollowed := true, recurses := true, apart := false, narrowed := true }
def FnExactAheadGameUptoSaid : Prop := fnExactAheadGameUptoRow.holds Try.pinned (OpenSpec.upto fnExactAheadGameSpec)

/-- 'laws.FnExactAheadSure', WHERE WHAT IT READS IS OF BULK AT MOST 1048576: true; the input reads as it did. -/
def fnExactAheadSureUptoRow : OpenClaim := { program := "ytameldhdegcpoaa", sum := "d619f575792cfcde7dfae156f886de753bf36dab99a0db119094356f1ddfc255", func := "loop.example/wapentake/laws.FnExactAheadSure", spec := "fnExactAheadSure", inPlace := ["slices.overlaps[loop.example/wapentake/impl.Ent]"], unfollowed := true, recurses := true, apart := false, narrowed := true }
def FnExactAheadSureUptoSaid : Prop := fnExactAheadSureUptoRow.holds Try.pinned (OpenSpec.upto fnExactAheadSureSpec)

/-- 'laws.FnExactAheadCodes', WHERE WHAT IT READS IS OF BULK AT MOST 1048576: true; the input reads as it did. -/
def fnExactAheadCodesUptoRow : OpenClaim := { program := "ytameldhdegcpoaa", sum := "d619f575792cfcde7dfae156f886de753bf36dab99a0db119094356f1ddfc255", func := "loop.example/wapentake/laws.FnExactAheadCodes", spec := "fnExactAheadCodes", inPlace := ["slices.overlaps[loop.example/wapentake/impl.Ent]"], unfollowed := true, recurses := true, apart := false, narrowed := true }
def FnExactAheadCodesUptoSaid : Prop := fnExactAheadCodesUptoRow.holds Try.pinned (OpenSpec.upto fnExactAheadCodesSpec)

/-- 'laws.FnAheadSure', WHERE WHAT IT READS IS OF BULK AT MOST 1048576: true; the input reads as it did. -/
def fnAheadSureUptoRow : OpenClaim := { program := "ytameldhdegcpoaa", sum := "d619f575792cfcde7dfae156f886de753bf36dab99a0db119094356f1ddfc255", func := "loop.example/wapentake/laws.FnAheadSure", spec := "fnAheadSure", inPlace := ["slices.overlaps[loop.example/wapentake/impl.Ent]"], unfollowed := true, recurses := true, apart := false, narrowed := true }
def FnAheadSureUptoSaid : Prop := fnAheadSureUptoRow.holds Try.pinned (OpenSpec.upto fnAheadSureSpec)

/-- 'laws.FnAheadPush', WHERE WHAT IT READS IS OF BULK AT MOST 1048576: true; the input reads as it did. -/
def fnAheadPushUptoRow : OpenClaim := { program := "ytameldhdegcpoaa", sum := "d619f575792cfcde7dfae156f886de753bf36dab99a0db119094356f1ddfc255", func := "loop.example/wapentake/laws.FnAheadPush", spec := "fnAheadPush", inPlace := ["slices.overlaps[loop.example/wapentake/impl.Ent]"], unfollowed := true, recurses := true, apart := false, narrowed := true }
def FnAheadPushUptoSaid : Prop := fnAheadPushUptoRow.holds Try.pinned (OpenSpec.upto fnAheadPushSpec)

/-- 'laws.FnAheadKeep', WHERE WHAT IT READS IS OF BULK AT MOST 1048576: true; the input reads as it did. -/
def fnAheadKeepUptoRow : OpenClaim := { program := "ytameldhdegcpoaa", sum := "d619f575792cfcde7dfae156f886de753bf36dab99a0db119094356f1ddfc255", func := "loop.example/wapentake/laws.FnAheadKeep", spec := "fnAheadKeep", inPlace := ["slices.overlaps[loop.example/wapentake/impl.Ent]"], unfollowed := true, recurses := true, apart := false, narrowed := true }
def FnAheadKeepUptoSaid : Prop := fnAheadKeepUptoRow.holds Try.pinned (OpenSpec.upto fnAheadKeepSpec)

/-- 'laws.FnAheadAll', WHERE WHAT IT READS IS OF BULK AT MOST 1048576: true; the input reads as it did. -/
def fnAheadAllUptoRow : OpenClaim := { program := "ytameldhdegcpoaa", sum := "d619f575792cfcde7dfae156f886de753bf36dab99a0db119094356f1ddfc255", func := "loop.example/wapentake/laws.FnAheadAll", spec := "fnAheadAll", inPlace := ["slices.overlaps[loop.example/wapentake/impl.Ent]"], unfollowed := true, recurses := true, apart := false, narrowed := true }
def FnAheadAllUptoSaid : Prop := fnAheadAllUptoRow.holds Try.pinned (OpenSpec.upto fnAheadAllSpec)

/-- 'laws.FnAheadCodes', WHERE WHAT IT READS IS OF BULK AT MOST 1048576: true; the input reads as it did. -/
def fnAheadCodesUptoRow : OpenClaim := { program := "ytameldhdegcpoaa", sum := "d619f575792cfcde7dfae156f886de753bf36dab99a0db119094356f1ddfc255", func := "loop.example/wapentake/laws.FnAheadCodes", spec := "fnAheadCodes", inPlace := ["slices.overlaps[loop.example/wapentake/impl.Ent]"], unfollowed := true, recurses := true, apart := false, narrowed := true }
def FnAheadCodesUptoSaid : Prop := fnAheadCodesUptoRow.holds Try.pinned (OpenSpec.upto fnAheadCodesSpec)

end Rows
end Go.Proofs.Ytameldhdegcpoaa
