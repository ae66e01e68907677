/-
  No cell of these rows narrows 'for every input' (looked for: loops, veiled, ifaces, maps, wideKeys, modest, calm, conditions, laid).
  DERIVED. THE GIVEN ROWS OF THIS SEAT. 17 by the template 'for every input the law returns true; each argument reads behind the call as it read before'; 0 by the template 'total and deterministic' (their statements: YtephmhgjhjheaaaTotals.lean).
  GIVEN WITH THE SEED: the statements are not yours to turn. If you find one false, say at which input.
  Laid BY PROGRAM, IN A SANDBOX (cutbox-rows.mjs): the forced cells as the released guide's own fill.sh prints them over the translation 5f46257fe7709bc4… (all of the seat's roots in one cut). By AI agents, Wed Nov 11 2026. No macro, syntax, notation, axiom, sorry.
-/
import Derived.Test.YtephmhgjhjheaaaChecked
import GoSem.Claim
import GoSem.ClaimJoined
import GoSem.ClaimMapViews
import Derived.JoinedTies
import Derived.KernelRfl
namespace Go.Proofs.Ytephmhgjhjheaaa
/- THE CELL 'sum', in the pinned program and in every row, IS THE sha256 OF THE DUMP (.gsa) THAT YtephmhgjhjheaaaProg.lean LOADS. Nothing in Lean hashes anything: it is a label: what it is worth is what the hold of that sum in a sandbox is worth. -/
noncomputable def Try.pinned : Pinned := { name := "ytephmhgjhjheaaa", sum := "5f46257fe7709bc49c49f4ec6bf8ab8ce7f3cd3ee3d9905e69d338fd855e4072", checked := Try.checked }
namespace Rows
def none {H : Type} : Left H := { results := [], args := [] }

/-- 'laws.FnReqLess': WHATEVER THE INPUT: true; the input reads as it did. -/
def fnReqLessSpec : ChangeSpec := { name := "fnReqLess", fn := fun _ => fun
  | [d1, d2] => { results := [.lit (.bool true)], args := [d1, d2] }
  | _ => none }
def fnReqLessRow : OpenClaim := { program := "ytephmhgjhjheaaa", sum := "5f46257fe7709bc49c49f4ec6bf8ab8ce7f3cd3ee3d9905e69d338fd855e4072", func := "loop.example/wapentake/laws.FnReqLess", spec := "fnReqLess", apart := false }
def FnReqLessSaid : Prop := fnReqLessRow.holds Try.pinned (OpenSpec.ofChange fnReqLessSpec)

/-- ITS FALSE NEIGHBOUR: 'it returns false'. Refute it at one input. -/
def fnReqLessWrong : ChangeSpec := { name := "fnReqLess", fn := fun _ => fun
  | [d1, d2] => { results := [.lit (.bool false)], args := [d1, d2] }
  | _ => none }
def FnReqLessWrongFalsely : Prop := fnReqLessRow.holds Try.pinned (OpenSpec.ofChange fnReqLessWrong)

/-- 'laws.FnGameDo': WHATEVER THE INPUT: true; the input reads as it did. -/
def fnGameDoSpec : ChangeSpec := { name := "fnGameDo", fn := fun _ => fun
  | [d] => { results := [.lit (.bool true)], args := [d] }
  | _ => none }
def fnGameDoRow : OpenClaim := { program := "ytephmhgjhjheaaa", sum := "5f46257fe7709bc49c49f4ec6bf8ab8ce7f3cd3ee3d9905e69d338fd855e4072", func := "loop.example/wapentake/laws.FnGameDo", spec := "fnGameDo", inPlace := ["slices.overlaps[loop.example/wapentake/impl.Ent]"], unfollowed := true, recurses := true, apart := false }
def FnGameDoSaid : Prop := fnGameDoRow.holds Try.pinned (OpenSpec.ofChange fnGameDoSpec)

/-- ITS FALSE NEIGHBOUR: 'it returns false'. Refute it at one input. -/
def fnGameDoWrong : ChangeSpec := { name := "fnGameDo", fn := fun _ => fun
  | [d] => { results := [.lit (.bool false)], args := [d] }
  | _ => none }
def FnGameDoWrongFalsely : Prop := fnGameDoRow.holds Try.pinned (OpenSpec.ofChange fnGameDoWrong)

/-- 'laws.FnGameCode': WHATEVER THE INPUT: true; the input reads as it did. -/
def fnGameCodeSpec : ChangeSpec := { name := "fnGameCode", fn := fun _ => fun
  | [d] => { results := [.lit (.bool true)], args := [d] }
  | _ => none }
def fnGameCodeRow : OpenClaim := { program := "ytephmhgjhjheaaa", sum := "5f46257fe7709bc49c49f4ec6bf8ab8ce7f3cd3ee3d9905e69d338fd855e4072", func := "loop.example/wapentake/laws.FnGameCode", spec := "fnGameCode", inPlace := ["slices.overlaps[loop.example/wapentake/impl.Ent]"], unfollowed := true, recurses := true, apart := false }
def FnGameCodeSaid : Prop := fnGameCodeRow.holds Try.pinned (OpenSpec.ofChange fnGameCodeSpec)

/-- ITS FALSE NEIGHBOUR: 'it returns false'. Refute it at one input. -/
def fnGameCodeWrong : ChangeSpec := { name := "fnGameCode", fn := fun _ => fun
  | [d] => { results := [.lit (.bool false)], args := [d] }
  | _ => none }
def FnGameCodeWrongFalsely : Prop := fnGameCodeRow.holds Try.pinned (OpenSpec.ofChange fnGameCodeWrong)

/-- 'laws.FnGameFold': WHATEVER THE INPUT: true; the input reads as it did. -/
def fnGameFoldSpec : ChangeSpec := { name := "fnGameFold", fn := fun _ => fun
  | [d1, d2] => { results := [.lit (.bool true)], args := [d1, d2] }
  | _ => none }
def fnGameFoldRow : OpenClaim := { program := "ytephmhgjhjheaaa", sum := "5f46257fe7709bc49c49f4ec6bf8ab8ce7f3cd3ee3d9905e69d338fd855e4072", func := "loop.example/wapentake/laws.FnGameFold", spec := "fnGameFold", inPlace := ["slices.overlaps[loop.example/wapentake/impl.Ent]"], unfollowed := true, recurses := true, apart := false }
def FnGameFoldSaid : Prop := fnGameFoldRow.holds Try.pinned (OpenSpec.ofChange fnGameFoldSpec)

/-- ITS FALSE NEIGHBOUR: 'it returns false'. Refute it at one input. -/
def fnGameFoldWrong : ChangeSpec := { name := "fnGameFold", fn := fun _ => fun
  | [d1, d2] => { results := [.lit (.bool false)], args := [d1, d2] }
  | _ => none }
def FnGameFoldWrongFalsely : Prop := fnGameFoldRow.holds Try.pinned (OpenSpec.ofChange fnGameFoldWrong)

/-- 'laws.FnLeader': WHATEVER THE INPUT: true; the input reads as it did. -/
def fnLeaderSpec : ChangeSpec := { name := "fnLeader", fn := fun _ => fun
  | [d] => { results := [.lit (.bool true)], args := [d] }
  | _ => none }
def fnLeaderRow : OpenClaim := { program := "ytephmhgjhjheaaa", sum := "5f46257fe7709bc49c49f4ec6bf8ab8ce7f3cd3ee3d9905e69d338fd855e4072", func := "loop.example/wapentake/laws.FnLeader", spec := "fnLeader", apart := false }
def FnLeaderSaid : Prop := fnLeaderRow.holds Try.pinned (OpenSpec.ofChange fnLeaderSpec)

/-- ITS FALSE NEIGHBOUR: 'it returns false'. Refute it at one input. -/
def fnLeaderWrong : ChangeSpec := { name := "fnLeader", fn := fun _ => fun
  | [d] => { results := [.lit (.bool false)], args := [d] }
  | _ => none }
def FnLeaderWrongFalsely : Prop := fnLeaderRow.holds Try.pinned (OpenSpec.ofChange fnLeaderWrong)

/-- 'laws.FnMsgSame': WHATEVER THE INPUT: true; the input reads as it did. -/
def fnMsgSameSpec : ChangeSpec := { name := "fnMsgSame", fn := fun _ => fun
  | [d] => { results := [.lit (.bool true)], args := [d] }
  | _ => none }
def fnMsgSameRow : OpenClaim := { program := "ytephmhgjhjheaaa", sum := "5f46257fe7709bc49c49f4ec6bf8ab8ce7f3cd3ee3d9905e69d338fd855e4072", func := "loop.example/wapentake/laws.FnMsgSame", spec := "fnMsgSame", unfollowed := true, recurses := true, apart := false }
def FnMsgSameSaid : Prop := fnMsgSameRow.holds Try.pinned (OpenSpec.ofChange fnMsgSameSpec)

/-- ITS FALSE NEIGHBOUR: 'it returns false'. Refute it at one input. -/
def fnMsgSameWrong : ChangeSpec := { name := "fnMsgSame", fn := fun _ => fun
  | [d] => { results := [.lit (.bool false)], args := [d] }
  | _ => none }
def FnMsgSameWrongFalsely : Prop := fnMsgSameRow.holds Try.pinned (OpenSpec.ofChange fnMsgSameWrong)

/-- 'laws.FnPickAll': WHATEVER THE INPUT: true; the input reads as it did. -/
def fnPickAllSpec : ChangeSpec := { name := "fnPickAll", fn := fun _ => fun
  | [d] => { results := [.lit (.bool true)], args := [d] }
  | _ => none }
def fnPickAllRow : OpenClaim := { program := "ytephmhgjhjheaaa", sum := "5f46257fe7709bc49c49f4ec6bf8ab8ce7f3cd3ee3d9905e69d338fd855e4072", func := "loop.example/wapentake/laws.FnPickAll", spec := "fnPickAll", unfollowed := true, recurses := true, apart := false }
def FnPickAllSaid : Prop := fnPickAllRow.holds Try.pinned (OpenSpec.ofChange fnPickAllSpec)

/-- ITS FALSE NEIGHBOUR: 'it returns false'. Refute it at one input. -/
def fnPickAllWrong : ChangeSpec := { name := "fnPickAll", fn := fun _ => fun
  | [d] => { results := [.lit (.bool false)], args := [d] }
  | _ => none }
def FnPickAllWrongFalsely : Prop := fnPickAllRow.holds Try.pinned (OpenSpec.ofChange fnPickAllWrong)

/-- 'laws.FnExactGameDo': WHATEVER THE INPUT: true; the input reads as it did. -/
def fnExactGameDoSpec : ChangeSpec := { name := "fnExactGameDo", fn := fun _ => fun
  | [d1, d2] => { results := [.lit (.bool true)], args := [d1, d2] }
  | _ => none }
def fnExactGameDoRow : OpenClaim := { program := "ytephmhgjhjheaaa", sum := "5f46257fe7709bc49c49f4ec6bf8ab8ce7f3cd3ee3d9905e69d338fd855e4072", func := "loop.example/wapentake/laws.FnExactGameDo", spec := "fnExactGameDo", inPlace := ["slices.overlaps[loop.example/wapentake/impl.Ent]"], unfollowed := true, recurses := true, apart := false }
def FnExactGameDoSaid : Prop := fnExactGameDoRow.holds Try.pinned (OpenSpec.ofChange fnExactGameDoSpec)

/-- ITS FALSE NEIGHBOUR: 'it returns false'. Refute it at one input. -/
def fnExactGameDoWrong : ChangeSpec := { name := "fnExactGameDo", fn := fun _ => fun
  | [d1, d2] => { results := [.lit (.bool false)], args := [d1, d2] }
  | _ => none }
def FnExactGameDoWrongFalsely : Prop := fnExactGameDoRow.holds Try.pinned (OpenSpec.ofChange fnExactGameDoWrong)

/-- 'laws.FnExactGameFold': WHATEVER THE INPUT: true; the input reads as it did. -/
def fnExactGameFoldSpec : ChangeSpec := { name := "fnExactGameFold", fn := fun _ => fun
  | [d] => { results := [.lit (.bool true)], args := [d] }
  | _ => none }
def fnExactGameFoldRow : OpenClaim := { program := "ytephmhgjhjheaaa", sum := "5f46257fe7709bc49c49f4ec6bf8ab8ce7f3cd3ee3d9905e69d338fd855e4072", func := "loop.example/wapentake/laws.FnExactGameFold", spec := "fnExactGameFold", inPlace := ["slices.overlaps[loop.example/wapentake/impl.Ent]"], unfollowed := true, recurses := true, apart := false }
def FnExactGameFoldSaid : Prop := fnExactGameFoldRow.holds Try.pinned (OpenSpec.ofChange fnExactGameFoldSpec)

/-- ITS FALSE NEIGHBOUR: 'it returns false'. Refute it at one input. -/
def fnExactGameFoldWrong : ChangeSpec := { name := "fnExactGameFold", fn := fun _ => fun
  | [d] => { results := [.lit (.bool false)], args := [d] }
  | _ => none }
def FnExactGameFoldWrongFalsely : Prop := fnExactGameFoldRow.holds Try.pinned (OpenSpec.ofChange fnExactGameFoldWrong)

/-- 'laws.FnExactLeader': WHATEVER THE INPUT: true; the input reads as it did. -/
def fnExactLeaderSpec : ChangeSpec := { name := "fnExactLeader", fn := fun _ => fun
  | [d] => { results := [.lit (.bool true)], args := [d] }
  | _ => none }
def fnExactLeaderRow : OpenClaim := { program := "ytephmhgjhjheaaa", sum := "5f46257fe7709bc49c49f4ec6bf8ab8ce7f3cd3ee3d9905e69d338fd855e4072", func := "loop.example/wapentake/laws.FnExactLeader", spec := "fnExactLeader", apart := false }
def FnExactLeaderSaid : Prop := fnExactLeaderRow.holds Try.pinned (OpenSpec.ofChange fnExactLeaderSpec)

/-- ITS FALSE NEIGHBOUR: 'it returns false'. Refute it at one input. -/
def fnExactLeaderWrong : ChangeSpec := { name := "fnExactLeader", fn := fun _ => fun
  | [d] => { results := [.lit (.bool false)], args := [d] }
  | _ => none }
def FnExactLeaderWrongFalsely : Prop := fnExactLeaderRow.holds Try.pinned (OpenSpec.ofChange fnExactLeaderWrong)

/-- 'laws.FnExactMsgOk': WHATEVER THE INPUT: true; the input reads as it did. -/
def fnExactMsgOkSpec : ChangeSpec := { name := "fnExactMsgOk", fn := fun _ => fun
  | [d] => { results := [.lit (.bool true)], args := [d] }
  | _ => none }
def fnExactMsgOkRow : OpenClaim := { program := "ytephmhgjhjheaaa", sum := "5f46257fe7709bc49c49f4ec6bf8ab8ce7f3cd3ee3d9905e69d338fd855e4072", func := "loop.example/wapentake/laws.FnExactMsgOk", spec := "fnExactMsgOk", unfollowed := true, recurses := true, apart := false }
def FnExactMsgOkSaid : Prop := fnExactMsgOkRow.holds Try.pinned (OpenSpec.ofChange fnExactMsgOkSpec)

/-- ITS FALSE NEIGHBOUR: 'it returns false'. Refute it at one input. -/
def fnExactMsgOkWrong : ChangeSpec := { name := "fnExactMsgOk", fn := fun _ => fun
  | [d] => { results := [.lit (.bool false)], args := [d] }
  | _ => none }
def FnExactMsgOkWrongFalsely : Prop := fnExactMsgOkRow.holds Try.pinned (OpenSpec.ofChange fnExactMsgOkWrong)

/-- 'laws.FnExactMsgSame': WHATEVER THE INPUT: true; the input reads as it did. -/
def fnExactMsgSameSpec : ChangeSpec := { name := "fnExactMsgSame", fn := fun _ => fun
  | [d1, d2] => { results := [.lit (.bool true)], args := [d1, d2] }
  | _ => none }
def fnExactMsgSameRow : OpenClaim := { program := "ytephmhgjhjheaaa", sum := "5f46257fe7709bc49c49f4ec6bf8ab8ce7f3cd3ee3d9905e69d338fd855e4072", func := "loop.example/wapentake/laws.FnExactMsgSame", spec := "fnExactMsgSame", unfollowed := true, recurses := true, apart := false }
def FnExactMsgSameSaid : Prop := fnExactMsgSameRow.holds Try.pinned (OpenSpec.ofChange fnExactMsgSameSpec)

/-- ITS FALSE NEIGHBOUR: 'it returns false'. Refute it at one input. -/
def fnExactMsgSameWrong : ChangeSpec := { name := "fnExactMsgSame", fn := fun _ => fun
  | [d1, d2] => { results := [.lit (.bool false)], args := [d1, d2] }
  | _ => none }
def FnExactMsgSameWrongFalsely : Prop := fnExactMsgSameRow.holds Try.pinned (OpenSpec.ofChange fnExactMsgSameWrong)

/-- 'laws.FnExactSaidHas': WHATEVER THE INPUT: true; the input reads as it did. -/
def fnExactSaidHasSpec : ChangeSpec := { name := "fnExactSaidHas", fn := fun _ => fun
  | [d1, d2] => { results := [.lit (.bool true)], args := [d1, d2] }
  | _ => none }
def fnExactSaidHasRow : OpenClaim := { program := "ytephmhgjhjheaaa", sum := "5f46257fe7709bc49c49f4ec6bf8ab8ce7f3cd3ee3d9905e69d338fd855e4072", func := "loop.example/wapentake/laws.FnExactSaidHas", spec := "fnExactSaidHas", unfollowed := true, recurses := true, apart := false }
def FnExactSaidHasSaid : Prop := fnExactSaidHasRow.holds Try.pinned (OpenSpec.ofChange fnExactSaidHasSpec)

/-- ITS FALSE NEIGHBOUR: 'it returns false'. Refute it at one input. -/
def fnExactSaidHasWrong : ChangeSpec := { name := "fnExactSaidHas", fn := fun _ => fun
  | [d1, d2] => { results := [.lit (.bool false)], args := [d1, d2] }
  | _ => none }
def FnExactSaidHasWrongFalsely : Prop := fnExactSaidHasRow.holds Try.pinned (OpenSpec.ofChange fnExactSaidHasWrong)

/-- 'laws.FnExactPickAll': WHATEVER THE INPUT: true; the input reads as it did. -/
def fnExactPickAllSpec : ChangeSpec := { name := "fnExactPickAll", fn := fun _ => fun
  | [d] => { results := [.lit (.bool true)], args := [d] }
  | _ => none }
def fnExactPickAllRow : OpenClaim := { program := "ytephmhgjhjheaaa", sum := "5f46257fe7709bc49c49f4ec6bf8ab8ce7f3cd3ee3d9905e69d338fd855e4072", func := "loop.example/wapentake/laws.FnExactPickAll", spec := "fnExactPickAll", unfollowed := true, recurses := true, apart := false }
def FnExactPickAllSaid : Prop := fnExactPickAllRow.holds Try.pinned (OpenSpec.ofChange fnExactPickAllSpec)

/-- ITS FALSE NEIGHBOUR: 'it returns false'. Refute it at one input. -/
def fnExactPickAllWrong : ChangeSpec := { name := "fnExactPickAll", fn := fun _ => fun
  | [d] => { results := [.lit (.bool false)], args := [d] }
  | _ => none }
def FnExactPickAllWrongFalsely : Prop := fnExactPickAllRow.holds Try.pinned (OpenSpec.ofChange fnExactPickAllWrong)

/-- 'laws.FnExactClaimReady': WHATEVER THE INPUT: true; the input reads as it did. -/
def fnExactClaimReadySpec : ChangeSpec := { name := "fnExactClaimReady", fn := fun _ => fun
  | [d1, d2] => { results := [.lit (.bool true)], args := [d1, d2] }
  | _ => none }
def fnExactClaimReadyRow : OpenClaim := { program := "ytephmhgjhjheaaa", sum := "5f46257fe7709bc49c49f4ec6bf8ab8ce7f3cd3ee3d9905e69d338fd855e4072", func := "loop.example/wapentake/laws.FnExactClaimReady", spec := "fnExactClaimReady", unfollowed := true, recurses := true, apart := false }
def FnExactClaimReadySaid : Prop := fnExactClaimReadyRow.holds Try.pinned (OpenSpec.ofChange fnExactClaimReadySpec)

/-- ITS FALSE NEIGHBOUR: 'it returns false'. Refute it at one input. -/
def fnExactClaimReadyWrong : ChangeSpec := { name := "fnExactClaimReady", fn := fun _ => fun
  | [d1, d2] => { results := [.lit (.bool false)], args := [d1, d2] }
  | _ => none }
def FnExactClaimReadyWrongFalsely : Prop := fnExactClaimReadyRow.holds Try.pinned (OpenSpec.ofChange fnExactClaimReadyWrong)

/-- 'laws.FnExactClaimDone': WHATEVER THE INPUT: true; the input reads as it did. -/
def fnExactClaimDoneSpec : ChangeSpec := { name := "fnExactClaimDone", fn := fun _ => fun
  | [d1, d2] => { results := [.lit (.bool true)], args := [d1, d2] }
  | _ => none }
def fnExactClaimDoneRow : OpenClaim := { program := "ytephmhgjhjheaaa", sum := "5f46257fe7709bc49c49f4ec6bf8ab8ce7f3cd3ee3d9905e69d338fd855e4072", func := "loop.example/wapentake/laws.FnExactClaimDone", spec := "fnExactClaimDone", unfollowed := true, recurses := true, apart := false }
def FnExactClaimDoneSaid : Prop := fnExactClaimDoneRow.holds Try.pinned (OpenSpec.ofChange fnExactClaimDoneSpec)

/-- ITS FALSE NEIGHBOUR: 'it returns false'. Refute it at one input. -/
def fnExactClaimDoneWrong : ChangeSpec := { name := "fnExactClaimDone", fn := fun _ => fun
  | [d1, d2] => { results := [.lit (.bool false)], args := [d1, d2] }
  | _ => none }
def FnExactClaimDoneWrongFalsely : Prop := fnExactClaimDoneRow.holds Try.pinned (OpenSpec.ofChange fnExactClaimDoneWrong)

/-- 'laws.FnExactVotesOk': WHATEVER THE INPUT: true; the input reads as it did. -/
def fnExactVotesOkSpec : ChangeSpec := { name := "fnExactVotesOk", fn := fun _ => fun
  | [d1, d2, d3] => { results := [.lit (.bool true)], args := [d1, d2, d3] }
  | _ => none }
def fnExactVotesOkRow : OpenClaim := { program := "ytephmhgjhjheaaa", sum := "5f46257fe7709bc49c49f4ec6bf8ab8ce7f3cd3ee3d9905e69d338fd855e4072", func := "loop.example/wapentake/laws.FnExactVotesOk", spec := "fnExactVotesOk", unfollowed := true, recurses := true, apart := false }
def FnExactVotesOkSaid : Prop := fnExactVotesOkRow.holds Try.pinned (OpenSpec.ofChange fnExactVotesOkSpec)

/-- ITS FALSE NEIGHBOUR: 'it returns false'. Refute it at one input. -/
def fnExactVotesOkWrong : ChangeSpec := { name := "fnExactVotesOk", fn := fun _ => fun
  | [d1, d2, d3] => { results := [.lit (.bool false)], args := [d1, d2, d3] }
  | _ => none }
def FnExactVotesOkWrongFalsely : Prop := fnExactVotesOkRow.holds Try.pinned (OpenSpec.ofChange fnExactVotesOkWrong)

/- THE SECOND FORM. 'bulk': how many values and letters a reading holds, each counted each time it is reached (what is shared counts as often as it is met; a slice's spare places count too). A statement '..UptoSaid' is the law's where the arguments, and the package variables that the reading takes, are together of bulk at most 1048576: NARROWER than '..Said'. Prove '..Said' where nothing that the law and all that it calls make is longer than what came in: it says more and counts as full. Else prove '..UptoSaid'. A law counts once. -/
mutual
def uptoBulk {H : Type} : DataW H → Nat
  | .lit (.string bytes) => bytes.length + 1
  | .lit _ => 1
  | .nil => 1
  | .ptr d => uptoBulk d + 1
  | .slice elems spare => uptoBulkAll elems + uptoBulkAll spare + 1
  | .agg parts => uptoBulkAll parts + 1
  | .iface _ d => uptoBulk d + 1
  | .map entries => uptoBulkEntries entries + 1
  | .held _ => 1
def uptoBulkAll {H : Type} : List (DataW H) → Nat
  | [] => 0
  | d :: r => uptoBulk d + uptoBulkAll r
def uptoBulkEntries {H : Type} : List (Lit × DataW H) → Nat
  | [] => 0
  | x :: r => uptoBulkEntry x + uptoBulkEntries r
def uptoBulkEntry {H : Type} : Lit × DataW H → Nat
  | (.string bytes, d) => bytes.length + uptoBulk d + 1
  | (_, d) => uptoBulk d + 1
 end
def uptoSmall : (H : Type) → List (DataW H) → Bool := fun _ ds => decide (uptoBulkAll ds ≤ 1048576)
def OpenSpec.upto (s : _root_.Go.ChangeSpec) : _root_.Go.OpenSpec := { _root_.Go.OpenSpec.ofChange s with cond := some uptoSmall }

/-- 'laws.FnReqLess', WHERE WHAT IT READS IS OF BULK AT MOST 1048576: true; the input reads as it did. -/
def fnReqLessUptoRow : OpenClaim := { program := "ytephmhgjhjheaaa", sum := "5f46257fe7709bc49c49f4ec6bf8ab8ce7f3cd3ee3d9905e69d338fd855e4072", func := "loop.example/wapentake/laws.FnReqLess", spec := "fnReqLess", apart := false, narrowed := true }
def FnReqLessUptoSaid : Prop := fnReqLessUptoRow.holds Try.pinned (OpenSpec.upto fnReqLessSpec)

/-- 'laws.FnGameDo', WHERE WHAT IT READS IS OF BULK AT MOST 1048576: true; the input reads as it did. -/
def fnGameDoUptoRow : OpenClaim := { program := "ytephmhgjhjheaaa", sum := "5f46257fe7709bc49c49f4ec6bf8ab8ce7f3cd3ee3d9905e69d338fd855e4072", func := "loop.example/wapentake/laws.FnGameDo", spec := "fnGameDo", inPlace := ["slices.overlaps[loop.example/wapentake/impl.Ent]"], unfollowed := true, recurses := true, apart := false, narrowed := true }
def FnGameDoUptoSaid : Prop := fnGameDoUptoRow.holds Try.pinned (OpenSpec.upto fnGameDoSpec)

/-- 'laws.FnGameCode', WHERE WHAT IT READS IS OF BULK AT MOST 1048576: true; the input reads as it did. -/
def fnGameCodeUptoRow : OpenClaim := { program := "ytephmhgjhjheaaa", sum := "5f46257fe7709bc49c49f4ec6bf8ab8ce7f3cd3ee3d9905e69d338fd855e4072", func := "loop.example/wapentake/laws.FnGameCode", spec := "fnGameCode", inPlace := ["slices.overlaps[loop.example/wapentake/impl.Ent]"], unfollowed := true, recurses := true, apart := false, narrowed := true }
def FnGameCodeUptoSaid : Prop := fnGameCodeUptoRow.holds Try.pinned (OpenSpec.upto fnGameCodeSpec)

/-- 'laws.FnGameFold', WHERE WHAT IT READS IS OF BULK AT MOST 1048576: true; the input reads as it did. -/
def fnGameFoldUptoRow : OpenClaim := { program := "ytephmhgjhjheaaa", sum := "5f46257fe7709bc49c49f4ec6bf8ab8ce7f3cd3ee3d9905e69d338fd855e4072", func := "loop.example/wapentake/laws.FnGameFold", spec := "fnGameFold", inPlace := ["slices.overlaps[loop.example/wapentake/impl.Ent]"], unfollowed := true, recurses := true, apart := false, narrowed := true }
def FnGameFoldUptoSaid : Prop := fnGameFoldUptoRow.holds Try.pinned (OpenSpec.upto fnGameFoldSpec)

/-- 'laws.FnLeader', WHERE WHAT IT READS IS OF BULK AT MOST 1048576: true; the input reads as it did. -/
def fnLeaderUptoRow : OpenClaim := { program := "ytephmhgjhjheaaa", sum := "5f46257fe7709bc49c49f4ec6bf8ab8ce7f3cd3ee3d9905e69d338fd855e4072", func := "loop.example/wapentake/laws.FnLeader", spec := "fnLeader", apart := false, narrowed := true }
def FnLeaderUptoSaid : Prop := fnLeaderUptoRow.holds Try.pinned (OpenSpec.upto fnLeaderSpec)

/-- 'laws.FnMsgSame', WHERE WHAT IT READS IS OF BULK AT MOST 1048576: true; the input reads as it did. -/
def fnMsgSameUptoRow : OpenClaim := { program := "ytephmhgjhjheaaa", sum := "5f46257fe7709bc49c49f4ec6bf8ab8ce7f3cd3ee3d9905e69d338fd855e4072", func := "loop.example/wapentake/laws.FnMsgSame", spec := "fnMsgSame", unfollowed := true, recurses := true, apart := false, narrowed := true }
def FnMsgSameUptoSaid : Prop := fnMsgSameUptoRow.holds Try.pinned (OpenSpec.upto fnMsgSameSpec)

/-- 'laws.FnPickAll', WHERE WHAT IT READS IS OF BULK AT MOST 1048576: true; the input reads as it did. -/
def fnPickAllUptoRow : OpenClaim := { program := "ytephmhgjhjheaaa", sum := "5f46257fe7709bc49c49f4ec6bf8ab8ce7f3cd3ee3d9905e69d338fd855e4072", func := "loop.example/wapentake/laws.FnPickAll", spec := "fnPickAll", unfollowed := true, recurses := true, apart := false, narrowed := true }
def FnPickAllUptoSaid : Prop := fnPickAllUptoRow.holds Try.pinned (OpenSpec.upto fnPickAllSpec)

/-- 'laws.FnExactGameDo', WHERE WHAT IT READS IS OF BULK AT MOST 1048576: true; the input reads as it did. -/
def fnExactGameDoUptoRow : OpenClaim := { program := "ytephmhgjhjheaaa", sum := "5f46257fe7709bc49c49f4ec6bf8ab8ce7f3cd3ee3d9905e69d338fd855e4072", func := "loop.example/wapentake/laws.FnExactGameDo", spec := "fnExactGameDo", inPlace := ["slices.overlaps[loop.example/wapentake/impl.Ent]"], unfollowed := true, recurses := true, apart := false, narrowed := true }
def FnExactGameDoUptoSaid : Prop := fnExactGameDoUptoRow.holds Try.pinned (OpenSpec.upto fnExactGameDoSpec)

/-- 'laws.FnExactGameFold', WHERE WHAT IT READS IS OF BULK AT MOST 1048576: true; the input reads as it did. -/
def fnExactGameFoldUptoRow : OpenClaim := { program := "ytephmhgjhjheaaa", sum := "5f46257fe7709bc49c49f4ec6bf8ab8ce7f3cd3ee3d9905e69d338fd855e4072", func := "loop.example/wapentake/laws.FnExactGameFold", spec := "fnExactGameFold", inPlace := ["slices.overlaps[loop.example/wapentake/impl.Ent]"], unfollowed := true, recurses := true, apart := false, narrowed := true }
def FnExactGameFoldUptoSaid : Prop := fnExactGameFoldUptoRow.holds Try.pinned (OpenSpec.upto fnExactGameFoldSpec)

/-- 'laws.FnExactLeader', WHERE WHAT IT READS IS OF BULK AT MOST 1048576: true; the input reads as it did. -/
def fnExactLeaderUptoRow : OpenClaim := { program := "ytephmhgjhjheaaa", sum := "5f46257fe7709bc49c49f4ec6bf8ab8ce7f3cd3ee3d9905e69d338fd855e4072", func := "loop.example/wapentake/laws.FnExactLeader", spec := "fnExactLeader", apart := false, narrowed := true }
def FnExactLeaderUptoSaid : Prop := fnExactLeaderUptoRow.holds Try.pinned (OpenSpec.upto fnExactLeaderSpec)

/-- 'laws.FnExactMsgOk', WHERE WHAT IT READS IS OF BULK AT MOST 1048576: true; the input reads as it did. -/
def fnExactMsgOkUptoRow : OpenClaim := { program := "ytephmhgjhjheaaa", sum := "5f46257fe7709bc49c49f4ec6bf8ab8ce7f3cd3ee3d9905e69d338fd855e4072", func := "loop.example/wapentake/laws.FnExactMsgOk", spec := "fnExactMsgOk", unfollowed := true, recurses := true, apart := false, narrowed := true }
def FnExactMsgOkUptoSaid : Prop := fnExactMsgOkUptoRow.holds Try.pinned (OpenSpec.upto fnExactMsgOkSpec)

/-- 'laws.FnExactMsgSame', WHERE WHAT IT READS IS OF BULK AT MOST 1048576: true; the input reads as it did. -/
def fnExactMsgSameUptoRow : OpenClaim := { program := "ytephmhgjhjheaaa", sum := "5f46257fe7709bc49c49f4ec6bf8ab8ce7f3cd3ee3d9905e69d338fd855e4072", func := "loop.example/wapentake/laws.FnExactMsgSame", spec := "fnExactMsgSame", unfollowed := true, recurses := true, apart := false, narrowed := true }
def FnExactMsgSameUptoSaid : Prop := fnExactMsgSameUptoRow.holds Try.pinned (OpenSpec.upto fnExactMsgSameSpec)

/-- 'laws.FnExactSaidHas', WHERE WHAT IT READS IS OF BULK AT MOST 1048576: true; the input reads as it did. -/
def fnExactSaidHasUptoRow : OpenClaim := { program := "ytephmhgjhjheaaa", sum := "5f46257fe7709bc49c49f4ec6bf8ab8ce7f3cd3ee3d9905e69d338fd855e4072", func := "loop.example/wapentake/laws.FnExactSaidHas", spec := "fnExactSaidHas", unfollowed := true, recurses := true, apart := false, narrowed := true }
def FnExactSaidHasUptoSaid : Prop := fnExactSaidHasUptoRow.holds Try.pinned (OpenSpec.upto fnExactSaidHasSpec)

/-- 'laws.FnExactPickAll', WHERE WHAT IT READS IS OF BULK AT MOST 1048576: true; the input reads as it did. -/
def fnExactPickAllUptoRow : OpenClaim := { program := "ytephmhgjhjheaaa", sum := "5f46257fe7709bc49c49f4ec6bf8ab8ce7f3cd3ee3d9905e69d338fd855e4072", func := "loop.example/wapentake/laws.FnExactPickAll", spec := "fnExactPickAll", unfollowed := true, recurses := true, apart := false, narrowed := true }
def FnExactPickAllUptoSaid : Prop := fnExactPickAllUptoRow.holds Try.pinned (OpenSpec.upto fnExactPickAllSpec)

/-- 'laws.FnExactClaimReady', WHERE WHAT IT READS IS OF BULK AT MOST 1048576: true; the input reads as it did. -/
def fnExactClaimReadyUptoRow : OpenClaim := { program := "ytephmhgjhjheaaa", sum := "5f46257fe7709bc49c49f4ec6bf8ab8ce7f3cd3ee3d9905e69d338fd855e4072", func := "loop.example/wapentake/laws.FnExactClaimReady", spec := "fnExactClaimReady", unfollowed := true, recurses := true, apart := false, narrowed := true }
def FnExactClaimReadyUptoSaid : Prop := fnExactClaimReadyUptoRow.holds Try.pinned (OpenSpec.upto fnExactClaimReadySpec)

/-- 'laws.FnExactClaimDone', WHERE WHAT IT READS IS OF BULK AT MOST 1048576: true; the input reads as it did. -/
def fnExactClaimDoneUptoRow : OpenClaim := { program := "ytephmhgjhjheaaa", sum := "5f46257fe7709bc49c49f4ec6bf8ab8ce7f3cd3ee3d9905e69d338fd855e4072", func := "loop.example/wapentake/laws.FnExactClaimDone", spec := "fnExactClaimDone", unfollowed := true, recurses := true, apart := false, narrowed := true }
def FnExactClaimDoneUptoSaid : Prop := fnExactClaimDoneUptoRow.holds Try.pinned (OpenSpec.upto fnExactClaimDoneSpec)

/-- 'laws.FnExactVotesOk', WHERE WHAT IT READS IS OF BULK AT MOST 1048576: true; the input reads as it did. -/
def fnExactVotesOkUptoRow : OpenClaim := { program := "ytephmhgjhjheaaa", sum := "5f46257fe7709bc49c49f4ec6bf8ab8ce7f3cd3ee3d9905e69d338fd855e4072", func := "loop.example/wapentake/laws.FnExactVotesOk", spec := "fnExactVotesOk", unfollowed := true, recurses := true, apart := false, narrowed := true }
def FnExactVotesOkUptoSaid : Prop := fnExactVotesOkUptoRow.holds Try.pinned (OpenSpec.upto fnExactVotesOkSpec)

end Rows
end Go.Proofs.Ytephmhgjhjheaaa
