/-
  No cell of these rows narrows 'for every input' (looked for: loops, veiled, ifaces, maps, wideKeys, modest, calm, conditions, laid).
  DERIVED. THE GIVEN ROWS OF THIS SEAT. 5 by the template 'for every input the law returns true; each argument reads behind the call as it read before'; 0 by the template 'total and deterministic' (their statements: YtnpdlpkomfegfaaTotals.lean).
  GIVEN WITH THE SEED: the statements are not yours to turn. If you find one false, say at which input.
  Laid BY PROGRAM, IN A SANDBOX (cutbox-rows.mjs): the forced cells as the released guide's own fill.sh prints them over the translation 9defb9b7cd50abae… (all of the seat's roots in one cut). By AI agents, Wed Nov 11 2026. No macro, syntax, notation, axiom, sorry.
-/
import Derived.Test.YtnpdlpkomfegfaaChecked
import GoSem.Claim
import GoSem.ClaimJoined
import GoSem.ClaimMapViews
import Derived.JoinedTies
import Derived.KernelRfl
namespace Go.Proofs.Ytnpdlpkomfegfaa
/- THE CELL 'sum', in the pinned program and in every row, IS THE sha256 OF THE DUMP (.gsa) THAT YtnpdlpkomfegfaaProg.lean LOADS. Nothing in Lean hashes anything: it is a label: what it is worth is what the hold of that sum in a sandbox is worth. -/
noncomputable def Try.pinned : Pinned := { name := "ytnpdlpkomfegfaa", sum := "9defb9b7cd50abae95d37e3af647f3580df092f102f5c9ebd885249f4d8a617f", checked := Try.checked }
namespace Rows
def none {H : Type} : Left H := { results := [], args := [] }

/-- 'laws.FnAheadSure': WHATEVER THE INPUT: true; the input reads as it did. -/
def fnAheadSureSpec : ChangeSpec := { name := "fnAheadSure", fn := fun _ => fun
  | [d] => { results := [.lit (.bool true)], args := [d] }
  | _ => none }
def fnAheadSureRow : OpenClaim := { program := "ytnpdlpkomfegfaa", sum := "9defb9b7cd50abae95d37e3af647f3580df092f102f5c9ebd885249f4d8a617f", func := "loop.example/wapentake/laws.FnAheadSure", spec := "fnAheadSure", inPlace := ["slices.overlaps[loop.example/wapentake/impl.Ent]"], unfollowed := true, recurses := true, apart := false }
def FnAheadSureSaid : Prop := fnAheadSureRow.holds Try.pinned (OpenSpec.ofChange fnAheadSureSpec)

/-- ITS FALSE NEIGHBOUR: 'it returns false'. Refute it at one input. -/
def fnAheadSureWrong : ChangeSpec := { name := "fnAheadSure", fn := fun _ => fun
  | [d] => { results := [.lit (.bool false)], args := [d] }
  | _ => none }
def FnAheadSureWrongFalsely : Prop := fnAheadSureRow.holds Try.pinned (OpenSpec.ofChange fnAheadSureWrong)

/-- 'laws.FnAheadPush': WHATEVER THE INPUT: true; the input reads as it did. -/
def fnAheadPushSpec : ChangeSpec := { name := "fnAheadPush", fn := fun _ => fun
  | [d] => { results := [.lit (.bool true)], args := [d] }
  | _ => none }
def fnAheadPushRow : OpenClaim := { program := "ytnpdlpkomfegfaa", sum := "9defb9b7cd50abae95d37e3af647f3580df092f102f5c9ebd885249f4d8a617f", func := "loop.example/wapentake/laws.FnAheadPush", spec := "fnAheadPush", inPlace := ["slices.overlaps[loop.example/wapentake/impl.Ent]"], unfollowed := true, recurses := true, apart := false }
def FnAheadPushSaid : Prop := fnAheadPushRow.holds Try.pinned (OpenSpec.ofChange fnAheadPushSpec)

/-- ITS FALSE NEIGHBOUR: 'it returns false'. Refute it at one input. -/
def fnAheadPushWrong : ChangeSpec := { name := "fnAheadPush", fn := fun _ => fun
  | [d] => { results := [.lit (.bool false)], args := [d] }
  | _ => none }
def FnAheadPushWrongFalsely : Prop := fnAheadPushRow.holds Try.pinned (OpenSpec.ofChange fnAheadPushWrong)

/-- 'laws.FnAheadKeep': WHATEVER THE INPUT: true; the input reads as it did. -/
def fnAheadKeepSpec : ChangeSpec := { name := "fnAheadKeep", fn := fun _ => fun
  | [d] => { results := [.lit (.bool true)], args := [d] }
  | _ => none }
def fnAheadKeepRow : OpenClaim := { program := "ytnpdlpkomfegfaa", sum := "9defb9b7cd50abae95d37e3af647f3580df092f102f5c9ebd885249f4d8a617f", func := "loop.example/wapentake/laws.FnAheadKeep", spec := "fnAheadKeep", inPlace := ["slices.overlaps[loop.example/wapentake/impl.Ent]"], unfollowed := true, recurses := true, apart := false }
def FnAheadKeepSaid : Prop := fnAheadKeepRow.holds Try.pinned (OpenSpec.ofChange fnAheadKeepSpec)

/-- ITS FALSE NEIGHBOUR: 'it returns false'. Refute it at one input. -/
def fnAheadKeepWrong : ChangeSpec := { name := "fnAheadKeep", fn := fun _ => fun
  | [d] => { results := [.lit (.bool false)], args := [d] }
  | _ => none }
def FnAheadKeepWrongFalsely : Prop := fnAheadKeepRow.holds Try.pinned (OpenSpec.ofChange fnAheadKeepWrong)

/-- 'laws.FnAheadAll': WHATEVER THE INPUT: true; the input reads as it did. -/
def fnAheadAllSpec : ChangeSpec := { name := "fnAheadAll", fn := fun _ => fun
  | [d] => { results := [.lit (.bool true)], args := [d] }
  | _ => none }
def fnAheadAllRow : OpenClaim := { program := "ytnpdlpkomfegfaa", sum := "9defb9b7cd50abae95d37e3af647f3580df092f102f5c9ebd885249f4d8a617f", func := "loop.example/wapentake/laws.FnAheadAll", spec := "fnAheadAll", inPlace := ["slices.overlaps[loop.example/wapentake/impl.Ent]"], unfollowed := true, recurses := true, apart := false }
def FnAheadAllSaid : Prop := fnAheadAllRow.holds Try.pinned (OpenSpec.ofChange fnAheadAllSpec)

/-- ITS FALSE NEIGHBOUR: 'it returns false'. Refute it at one input. -/
def fnAheadAllWrong : ChangeSpec := { name := "fnAheadAll", fn := fun _ => fun
  | [d] => { results := [.lit (.bool false)], args := [d] }
  | _ => none }
def FnAheadAllWrongFalsely : Prop := fnAheadAllRow.holds Try.pinned (OpenSpec.ofChange fnAheadAllWrong)

/-- 'laws.FnAheadCodes': WHATEVER THE INPUT: true; the input reads as it did. -/
def fnAheadCodesSpec : ChangeSpec := { name := "fnAheadCodes", fn := fun _ => fun
  | [d] => { results := [.lit (.bool true)], args := [d] }
  | _ => none }
def fnAheadCodesRow : OpenClaim := { program := "ytnpdlpkomfegfaa", sum := "9defb9b7cd50abae95d37e3af647f3580df092f102f5c9ebd885249f4d8a617f", func := "loop.example/wapentake/laws.FnAheadCodes", spec := "fnAheadCodes", inPlace := ["slices.overlaps[loop.example/wapentake/impl.Ent]"], unfollowed := true, recurses := true, apart := false }
def FnAheadCodesSaid : Prop := fnAheadCodesRow.holds Try.pinned (OpenSpec.ofChange fnAheadCodesSpec)

/-- ITS FALSE NEIGHBOUR: 'it returns false'. Refute it at one input. -/
def fnAheadCodesWrong : ChangeSpec := { name := "fnAheadCodes", fn := fun _ => fun
  | [d] => { results := [.lit (.bool false)], args := [d] }
  | _ => none }
def FnAheadCodesWrongFalsely : Prop := fnAheadCodesRow.holds Try.pinned (OpenSpec.ofChange fnAheadCodesWrong)

/- THE SECOND FORM. 'bulk': how many values and letters a reading holds, each counted each time it is reached (what is shared counts as often as it is met; a slice's spare places count too). A statement '..UptoSaid' is the law's where the arguments, and the package variables that the reading takes, are together of bulk at most 1048576: NARROWER than '..Said'. Prove '..Said' where nothing that the law and all that it calls make is longer than what came in: it says more and counts as full. Else prove '..UptoSaid'. A law counts once. -/
mutual
def uptoBulk {H : Type} : DataW H → Nat
  | .lit (.string bytes) => bytes.length + 1
  | .lit _ => 1
  | .nil => 1
  | .ptr d => uptoBulk d + 1
  | .slice elems spare => uptoBulkAll elems + uptoBulkAll spare + 1
  | .agg parts => uptoBulkAll parts + 1
  | .iface _ d => uptoBulk d + 1
  | .map entries => uptoBulkEntries entries + 1
  | .held _ => 1
def uptoBulkAll {H : Type} : List (DataW H) → Nat
  | [] => 0
  | d :: r => uptoBulk d + uptoBulkAll r
def uptoBulkEntries {H : Type} : List (Lit × DataW H) → Nat
  | [] => 0
  | x :: r => uptoBulkEntry x + uptoBulkEntries r
def uptoBulkEntry {H : Type} : Lit × DataW H → Nat
  | (.string bytes, d) => bytes.length + uptoBulk d + 1
  | (_, d) => uptoBulk d + 1
 end
def uptoSmall : (H : Type) → List (DataW H) → Bool := fun _ ds => decide (uptoBulkAll ds ≤ 1048576)
def OpenSpec.upto (s : _root_.Go.ChangeSpec) : _root_.Go.OpenSpec := { _root_.Go.OpenSpec.ofChange s with cond := some uptoSmall }

/-- 'laws.FnAheadSure', WHERE WHAT IT READS IS OF BULK AT MOST 1048576: true; the input reads as it did. -/
def fnAheadSureUptoRow : OpenClaim := { program := "ytnpdlpkomfegfaa", sum := "9defb9b7cd50abae95d37e3af647f3580df092f102f5c9ebd885249f4d8a617f", func := "loop.example/wapentake/laws.FnAheadSure", spec := "fnAheadSure", inPlace := ["slices.overlaps[loop.example/wapentake/impl.Ent]"], unfollowed := true, recurses := true, apart := false, narrowed := true }
def FnAheadSureUptoSaid : Prop := fnAheadSureUptoRow.holds Try.pinned (OpenSpec.upto fnAheadSureSpec)

/-- 'laws.FnAheadPush', WHERE WHAT IT READS IS OF BULK AT MOST 1048576: true; the input reads as it did. -/
def fnAheadPushUptoRow : OpenClaim := { program := "ytnpdlpkomfegfaa", sum := "9defb9b7cd50abae95d37e3af647f3580df092f102f5c9ebd885249f4d8a617f", func := "loop.example/wapentake/laws.FnAheadPush", spec := "fnAheadPush", inPlace := ["slices.overlaps[loop.example/wapentake/impl.Ent]"], unfollowed := true, recurses := true, apart := false, narrowed := true }
def FnAheadPushUptoSaid : Prop := fnAheadPushUptoRow.holds Try.pinned (OpenSpec.upto fnAheadPushSpec)

/-- 'laws.FnAheadKeep', WHERE WHAT IT READS IS OF BULK AT MOST 1048576: true; the input reads as it did. -/
def fnAheadKeepUptoRow : OpenClaim := { program := "ytnpdlpkomfegfaa", sum := "9defb9b7cd50abae95d37e3af647f3580df092f102f5c9ebd885249f4d8a617f", func := "loop.example/wapentake/laws.FnAheadKeep", spec := "fnAheadKeep", inPlace := ["slices.overlaps[loop.example/wapentake/impl.Ent]"], unfollowed := true, recurses := true, apart := false, narrowed := true }
def FnAheadKeepUptoSaid : Prop := fnAheadKeepUptoRow.holds Try.pinned (OpenSpec.upto fnAheadKeepSpec)

/-- 'laws.FnAheadAll', WHERE WHAT IT READS IS OF BULK AT MOST 1048576: true; the input reads as it did. -/
def fnAheadAllUptoRow : OpenClaim := { program := "ytnpdlpkomfegfaa", sum := "9defb9b7cd50abae95d37e3af647f3580df092f102f5c9ebd885249f4d8a617f", func := "loop.example/wapentake/laws.FnAheadAll", spec := "fnAheadAll", inPlace := ["slices.overlaps[loop.example/wapentake/impl.Ent]"], unfollowed := true, recurses := true, apart := false, narrowed := true }
def FnAheadAllUptoSaid : Prop := fnAheadAllUptoRow.holds Try.pinned (OpenSpec.upto fnAheadAllSpec)

/-- 'laws.FnAheadCodes', WHERE WHAT IT READS IS OF BULK AT MOST 1048576: true; the input reads as it did. -/
def fnAheadCodesUptoRow : OpenClaim := { program := "ytnpdlpkomfegfaa", sum := "9defb9b7cd50abae95d37e3af647f3580df092f102f5c9ebd885249f4d8a617f", func := "loop.example/wapentake/laws.FnAheadCodes", spec := "fnAheadCodes", inPlace := ["slices.overlaps[loop.example/wapentake/impl.Ent]"], unfollowed := true, recurses := true, apart := false, narrowed := true }
def FnAheadCodesUptoSaid : Prop := fnAheadCodesUptoRow.holds Try.pinned (OpenSpec.upto fnAheadCodesSpec)

end Rows
end Go.Proofs.Ytnpdlpkomfegfaa
