/-
  No cell of these rows narrows 'for every input' (looked for: loops, veiled, ifaces, maps, wideKeys, modest, calm, conditions, laid).
  DERIVED. THE GIVEN ROWS OF THIS SEAT. 7 by the template 'for every input the law returns true; each argument reads behind the call as it read before'; 0 by the template 'total and deterministic' (their statements: YtlokhgnbcbnmpaaTotals.lean).
  GIVEN WITH THE SEED: the statements are not yours to turn. If you find one false, say at which input.
  Laid BY PROGRAM, IN A SANDBOX (cutbox-rows.mjs): the forced cells as the released guide's own fill.sh prints them over the translation 9e9fb69b24de3725… (all of the seat's roots in one cut). By AI agents, Wed Nov 11 2026. No macro, syntax, notation, axiom, sorry.
-/
import Derived.Test.YtlokhgnbcbnmpaaChecked
import GoSem.Claim
import GoSem.ClaimJoined
import GoSem.ClaimMapViews
import Derived.JoinedTies
import Derived.KernelRfl
namespace Go.Proofs.Ytlokhgnbcbnmpaa
/- THE CELL 'sum', in the pinned program and in every row, IS THE sha256 OF THE DUMP (.gsa) THAT YtlokhgnbcbnmpaaProg.lean LOADS. Nothing in Lean hashes anything: it is a label: what it is worth is what the hold of that sum in a sandbox is worth. -/
noncomputable def Try.pinned : Pinned := { name := "ytlokhgnbcbnmpaa", sum := "9e9fb69b24de372589e2d5c47e155aa8d8bafb0685c3a8708ea27c8cd65f2e8d", checked := Try.checked }
namespace Rows
def none {H : Type} : Left H := { results := [], args := [] }

/-- 'laws.FnExactMsgOk': WHATEVER THE INPUT: true; the input reads as it did. -/
def fnExactMsgOkSpec : ChangeSpec := { name := "fnExactMsgOk", fn := fun _ => fun
  | [d] => { results := [.lit (.bool true)], args := [d] }
  | _ => none }
def fnExactMsgOkRow : OpenClaim := { program := "ytlokhgnbcbnmpaa", sum := "9e9fb69b24de372589e2d5c47e155aa8d8bafb0685c3a8708ea27c8cd65f2e8d", func := "loop.example/wapentake/laws.FnExactMsgOk", spec := "fnExactMsgOk", unfollowed := true, recurses := true, apart := false }
def FnExactMsgOkSaid : Prop := fnExactMsgOkRow.holds Try.pinned (OpenSpec.ofChange fnExactMsgOkSpec)

/-- ITS FALSE NEIGHBOUR: 'it returns false'. Refute it at one input. -/
def fnExactMsgOkWrong : ChangeSpec := { name := "fnExactMsgOk", fn := fun _ => fun
  | [d] => { results := [.lit (.bool false)], args := [d] }
  | _ => none }
def FnExactMsgOkWrongFalsely : Prop := fnExactMsgOkRow.holds Try.pinned (OpenSpec.ofChange fnExactMsgOkWrong)

/-- 'laws.FnExactPickAll': WHATEVER THE INPUT: true; the input reads as it did. -/
def fnExactPickAllSpec : ChangeSpec := { name := "fnExactPickAll", fn := fun _ => fun
  | [d] => { results := [.lit (.bool true)], args := [d] }
  | _ => none }
def fnExactPickAllRow : OpenClaim := { program := "ytlokhgnbcbnmpaa", sum := "9e9fb69b24de372589e2d5c47e155aa8d8bafb0685c3a8708ea27c8cd65f2e8d", func := "loop.example/wapentake/laws.FnExactPickAll", spec := "fnExactPickAll", unfollowed := true, recurses := true, apart := false }
def FnExactPickAllSaid : Prop := fnExactPickAllRow.holds Try.pinned (OpenSpec.ofChange fnExactPickAllSpec)

/-- ITS FALSE NEIGHBOUR: 'it returns false'. Refute it at one input. -/
def fnExactPickAllWrong : ChangeSpec := { name := "fnExactPickAll", fn := fun _ => fun
  | [d] => { results := [.lit (.bool false)], args := [d] }
  | _ => none }
def FnExactPickAllWrongFalsely : Prop := fnExactPickAllRow.holds Try.pinned (OpenSpec.ofChange fnExactPickAllWrong)

/-- 'laws.FnExactClaimReady': WHATEVER THE INPUT: true; the input reads as it did. -/
def fnExactClaimReadySpec : ChangeSpec := { name := "fnExactClaimReady", fn := fun _ => fun
  | [d1, d2] => { results := [.lit (.bool true)], args := [d1, d2] }
  | _ => none }
def fnExactClaimReadyRow : OpenClaim := { program := "ytlokhgnbcbnmpaa", sum := "9e9fb69b24de372589e2d5c47e155aa8d8bafb0685c3a8708ea27c8cd65f2e8d", func := "loop.example/wapentake/laws.FnExactClaimReady", spec := "fnExactClaimReady", unfollowed := true, recurses := true, apart := false }
def FnExactClaimReadySaid : Prop := fnExactClaimReadyRow.holds Try.pinned (OpenSpec.ofChange fnExactClaimReadySpec)

/-- ITS FALSE NEIGHBOUR: 'it returns false'. Refute it at one input. -/
def fnExactClaimReadyWrong : ChangeSpec := { name := "fnExactClaimReady", fn := fun _ => fun
  | [d1, d2] => { results := [.lit (.bool false)], args := [d1, d2] }
  | _ => none }
def FnExactClaimReadyWrongFalsely : Prop := fnExactClaimReadyRow.holds Try.pinned (OpenSpec.ofChange fnExactClaimReadyWrong)

/-- 'laws.FnExactClaimDone': WHATEVER THE INPUT: true; the input reads as it did. -/
def fnExactClaimDoneSpec : ChangeSpec := { name := "fnExactClaimDone", fn := fun _ => fun
  | [d1, d2] => { results := [.lit (.bool true)], args := [d1, d2] }
  | _ => none }
def fnExactClaimDoneRow : OpenClaim := { program := "ytlokhgnbcbnmpaa", sum := "9e9fb69b24de372589e2d5c47e155aa8d8bafb0685c3a8708ea27c8cd65f2e8d", func := "loop.example/wapentake/laws.FnExactClaimDone", spec := "fnExactClaimDone", unfollowed := true, recurses := true, apart := false }
def FnExactClaimDoneSaid : Prop := fnExactClaimDoneRow.holds Try.pinned (OpenSpec.ofChange fnExactClaimDoneSpec)

/-- ITS FALSE NEIGHBOUR: 'it returns false'. Refute it at one input. -/
def fnExactClaimDoneWrong : ChangeSpec := { name := "fnExactClaimDone", fn := fun _ => fun
  | [d1, d2] => { results := [.lit (.bool false)], args := [d1, d2] }
  | _ => none }
def FnExactClaimDoneWrongFalsely : Prop := fnExactClaimDoneRow.holds Try.pinned (OpenSpec.ofChange fnExactClaimDoneWrong)

/-- 'laws.FnExactVotesOk': WHATEVER THE INPUT: true; the input reads as it did. -/
def fnExactVotesOkSpec : ChangeSpec := { name := "fnExactVotesOk", fn := fun _ => fun
  | [d1, d2, d3] => { results := [.lit (.bool true)], args := [d1, d2, d3] }
  | _ => none }
def fnExactVotesOkRow : OpenClaim := { program := "ytlokhgnbcbnmpaa", sum := "9e9fb69b24de372589e2d5c47e155aa8d8bafb0685c3a8708ea27c8cd65f2e8d", func := "loop.example/wapentake/laws.FnExactVotesOk", spec := "fnExactVotesOk", unfollowed := true, recurses := true, apart := false }
def FnExactVotesOkSaid : Prop := fnExactVotesOkRow.holds Try.pinned (OpenSpec.ofChange fnExactVotesOkSpec)

/-- ITS FALSE NEIGHBOUR: 'it returns false'. Refute it at one input. -/
def fnExactVotesOkWrong : ChangeSpec := { name := "fnExactVotesOk", fn := fun _ => fun
  | [d1, d2, d3] => { results := [.lit (.bool false)], args := [d1, d2, d3] }
  | _ => none }
def FnExactVotesOkWrongFalsely : Prop := fnExactVotesOkRow.holds Try.pinned (OpenSpec.ofChange fnExactVotesOkWrong)

/-- 'laws.FnMsgSame': WHATEVER THE INPUT: true; the input reads as it did. -/
def fnMsgSameSpec : ChangeSpec := { name := "fnMsgSame", fn := fun _ => fun
  | [d] => { results := [.lit (.bool true)], args := [d] }
  | _ => none }
def fnMsgSameRow : OpenClaim := { program := "ytlokhgnbcbnmpaa", sum := "9e9fb69b24de372589e2d5c47e155aa8d8bafb0685c3a8708ea27c8cd65f2e8d", func := "loop.example/wapentake/laws.FnMsgSame", spec := "fnMsgSame", unfollowed := true, recurses := true, apart := false }
def FnMsgSameSaid : Prop := fnMsgSameRow.holds Try.pinned (OpenSpec.ofChange fnMsgSameSpec)

/-- ITS FALSE NEIGHBOUR: 'it returns false'. Refute it at one input. -/
def fnMsgSameWrong : ChangeSpec := { name := "fnMsgSame", fn := fun _ => fun
  | [d] => { results := [.lit (.bool false)], args := [d] }
  | _ => none }
def FnMsgSameWrongFalsely : Prop := fnMsgSameRow.holds Try.pinned (OpenSpec.ofChange fnMsgSameWrong)

/-- 'laws.FnPickAll': WHATEVER THE INPUT: true; the input reads as it did. -/
def fnPickAllSpec : ChangeSpec := { name := "fnPickAll", fn := fun _ => fun
  | [d] => { results := [.lit (.bool true)], args := [d] }
  | _ => none }
def fnPickAllRow : OpenClaim := { program := "ytlokhgnbcbnmpaa", sum := "9e9fb69b24de372589e2d5c47e155aa8d8bafb0685c3a8708ea27c8cd65f2e8d", func := "loop.example/wapentake/laws.FnPickAll", spec := "fnPickAll", unfollowed := true, recurses := true, apart := false }
def FnPickAllSaid : Prop := fnPickAllRow.holds Try.pinned (OpenSpec.ofChange fnPickAllSpec)

/-- ITS FALSE NEIGHBOUR: 'it returns false'. Refute it at one input. -/
def fnPickAllWrong : ChangeSpec := { name := "fnPickAll", fn := fun _ => fun
  | [d] => { results := [.lit (.bool false)], args := [d] }
  | _ => none }
def FnPickAllWrongFalsely : Prop := fnPickAllRow.holds Try.pinned (OpenSpec.ofChange fnPickAllWrong)

/- THE SECOND FORM. 'bulk': how many values and letters a reading holds, each counted each time it is reached (what is shared counts as often as it is met; a slice's spare places count too). A statement '..UptoSaid' is the law's where the arguments, and the package variables that the reading takes, are together of bulk at most 1048576: NARROWER than '..Said'. Prove '..Said' where nothing that the law and all that it calls make is longer than what came in: it says more and counts as full. Else prove '..UptoSaid'. A law counts once. -/
mutual
def uptoBulk {H : Type} : DataW H → Nat
  | .lit (.string bytes) => bytes.length + 1
  | .lit _ => 1
  | .nil => 1
  | .ptr d => uptoBulk d + 1
  | .slice elems spare => uptoBulkAll elems + uptoBulkAll spare + 1
  | .agg parts => uptoBulkAll parts + 1
  | .iface _ d => uptoBulk d + 1
  | .map entries => uptoBulkEntries entries + 1
  | .held _ => 1
def uptoBulkAll {H : Type} : List (DataW H) → Nat
  | [] => 0
  | d :: r => uptoBulk d + uptoBulkAll r
def uptoBulkEntries {H : Type} : List (Lit × DataW H) → Nat
  | [] => 0
  | x :: r => uptoBulkEntry x + uptoBulkEntries r
def uptoBulkEntry {H : Type} : Lit × DataW H → Nat
  | (.string bytes, d) => bytes.length + uptoBulk d + 1
  | (_, d) => uptoBulk d + 1
 end
def uptoSmall : (H : Type) → List (DataW H) → Bool := fun _ ds => decide (uptoBulkAll ds ≤ 1048576)
def OpenSpec.upto (s : _root_.Go.ChangeSpec) : _root_.Go.OpenSpec := { _root_.Go.OpenSpec.ofChange s with cond := some uptoSmall }

/-- 'laws.FnExactMsgOk', WHERE WHAT IT READS IS OF BULK AT MOST 1048576: true; the input reads as it did. -/
def fnExactMsgOkUptoRow : OpenClaim := { program := "ytlokhgnbcbnmpaa", sum := "9e9fb69b24de372589e2d5c47e155aa8d8bafb0685c3a8708ea27c8cd65f2e8d", func := "loop.example/wapentake/laws.FnExactMsgOk", spec := "fnExactMsgOk", unfollowed := true, recurses := true, apart := false, narrowed := true }
def FnExactMsgOkUptoSaid : Prop := fnExactMsgOkUptoRow.holds Try.pinned (OpenSpec.upto fnExactMsgOkSpec)

/-- 'laws.FnExactPickAll', WHERE WHAT IT READS IS OF BULK AT MOST 1048576: true; the input reads as it did. -/
def fnExactPickAllUptoRow : OpenClaim := { program := "ytlokhgnbcbnmpaa", sum := "9e9fb69b24de372589e2d5c47e155aa8d8bafb0685c3a8708ea27c8cd65f2e8d", func := "loop.example/wapentake/laws.FnExactPickAll", spec := "fnExactPickAll", unfollowed := true, recurses := true, apart := false, narrowed := true }
def FnExactPickAllUptoSaid : Prop := fnExactPickAllUptoRow.holds Try.pinned (OpenSpec.upto fnExactPickAllSpec)

/-- 'laws.FnExactClaimReady', WHERE WHAT IT READS IS OF BULK AT MOST 1048576: true; the input reads as it did. -/
def fnExactClaimReadyUptoRow : OpenClaim := { program := "ytlokhgnbcbnmpaa", sum := "9e9fb69b24de372589e2d5c47e155aa8d8bafb0685c3a8708ea27c8cd65f2e8d", func := "loop.example/wapentake/laws.FnExactClaimReady", spec := "fnExactClaimReady", unfollowed := true, recurses := true, apart := false, narrowed := true }
def FnExactClaimReadyUptoSaid : Prop := fnExactClaimReadyUptoRow.holds Try.pinned (OpenSpec.upto fnExactClaimReadySpec)

/-- 'laws.FnExactClaimDone', WHERE WHAT IT READS IS OF BULK AT MOST 1048576: true; the input reads as it did. -/
def fnExactClaimDoneUptoRow : OpenClaim := { program := "ytlokhgnbcbnmpaa", sum := "9e9fb69b24de372589e2d5c47e155aa8d8bafb0685c3a8708ea27c8cd65f2e8d", func := "loop.example/wapentake/laws.FnExactClaimDone", spec := "fnExactClaimDone", unfollowed := true, recurses := true, apart := false, narrowed := true }
def FnExactClaimDoneUptoSaid : Prop := fnExactClaimDoneUptoRow.holds Try.pinned (OpenSpec.upto fnExactClaimDoneSpec)

/-- 'laws.FnExactVotesOk', WHERE WHAT IT READS IS OF BULK AT MOST 1048576: true; the input reads as it did. -/
def fnExactVotesOkUptoRow : OpenClaim := { program := "ytlokhgnbcbnmpaa", sum := "9e9fb69b24de372589e2d5c47e155aa8d8bafb0685c3a8708ea27c8cd65f2e8d", func := "loop.example/wapentake/laws.FnExactVotesOk", spec := "fnExactVotesOk", unfollowed := true, recurses := true, apart := false, narrowed := true }
def FnExactVotesOkUptoSaid : Prop := fnExactVotesOkUptoRow.holds Try.pinned (OpenSpec.upto fnExactVotesOkSpec)

/-- 'laws.FnMsgSame', WHERE WHAT IT READS IS OF BULK AT MOST 1048576: true; the input reads as it did. -/
def fnMsgSameUptoRow : OpenClaim := { program := "ytlokhgnbcbnmpaa", sum := "9e9fb69b24de372589e2d5c47e155aa8d8bafb0685c3a8708ea27c8cd65f2e8d", func := "loop.example/wapentake/laws.FnMsgSame", spec := "fnMsgSame", unfollowed := true, recurses := true, apart := false, narrowed := true }
def FnMsgSameUptoSaid : Prop := fnMsgSameUptoRow.holds Try.pinned (OpenSpec.upto fnMsgSameSpec)

/-- 'laws.FnPickAll', WHERE WHAT IT READS IS OF BULK AT MOST 1048576: true; the input reads as it did. -/
def fnPickAllUptoRow : OpenClaim := { program := "ytlokhgnbcbnmpaa", sum := "9e9fb69b24de372589e2d5c47e155aa8d8bafb0685c3a8708ea27c8cd65f2e8d", func := "loop.example/wapentake/laws.FnPickAll", spec := "fnPickAll", unfollowed := true, recurses := true, apart := false, narrowed := true }
def FnPickAllUptoSaid : Prop := fnPickAllUptoRow.holds Try.pinned (OpenSpec.upto fnPickAllSpec)

end Rows
end Go.Proofs.Ytlokhgnbcbnmpaa
