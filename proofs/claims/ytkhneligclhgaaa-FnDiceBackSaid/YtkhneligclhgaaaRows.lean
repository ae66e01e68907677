/-
  No cell of these rows narrows 'for every input' (looked for: loops, veiled, ifaces, maps, wideKeys, modest, calm, conditions, laid).
  DERIVED. THE GIVEN ROWS OF THIS SEAT. 10 by the template 'for every input the law returns true; each argument reads behind the call as it read before'; 0 by the template 'total and deterministic' (their statements: YtkhneligclhgaaaTotals.lean).
  GIVEN WITH THE SEED: the statements are not yours to turn. If you find one false, say at which input.
  Laid BY PROGRAM, IN A SANDBOX (cutbox-rows.mjs): the forced cells as the released guide's own fill.sh prints them over the translation a795b1de9724073b… (all of the seat's roots in one cut). By AI agents, Wed Nov 11 2026. No macro, syntax, notation, axiom, sorry.
-/
import Derived.Test.YtkhneligclhgaaaChecked
import GoSem.Claim
import GoSem.ClaimJoined
import GoSem.ClaimMapViews
import Derived.JoinedTies
import Derived.KernelRfl
namespace Go.Proofs.Ytkhneligclhgaaa
/- THE CELL 'sum', in the pinned program and in every row, IS THE sha256 OF THE DUMP (.gsa) THAT YtkhneligclhgaaaProg.lean LOADS. Nothing in Lean hashes anything: it is a label: what it is worth is what the hold of that sum in a sandbox is worth. -/
noncomputable def Try.pinned : Pinned := { name := "ytkhneligclhgaaa", sum := "a795b1de9724073b2ea6b7b69ddd17e9f336100c60d2ecb521073b462851cf1c", checked := Try.checked }
namespace Rows
def none {H : Type} : Left H := { results := [], args := [] }

/-- 'laws.FnDiceNext': WHATEVER THE INPUT: true; the input reads as it did. -/
def fnDiceNextSpec : ChangeSpec := { name := "fnDiceNext", fn := fun _ => fun
  | [d1, d2] => { results := [.lit (.bool true)], args := [d1, d2] }
  | _ => none }
def fnDiceNextRow : OpenClaim := { program := "ytkhneligclhgaaa", sum := "a795b1de9724073b2ea6b7b69ddd17e9f336100c60d2ecb521073b462851cf1c", func := "loop.example/wapentake/laws.FnDiceNext", spec := "fnDiceNext", apart := false }
def FnDiceNextSaid : Prop := fnDiceNextRow.holds Try.pinned (OpenSpec.ofChange fnDiceNextSpec)

/-- ITS FALSE NEIGHBOUR: 'it returns false'. Refute it at one input. -/
def fnDiceNextWrong : ChangeSpec := { name := "fnDiceNext", fn := fun _ => fun
  | [d1, d2] => { results := [.lit (.bool false)], args := [d1, d2] }
  | _ => none }
def FnDiceNextWrongFalsely : Prop := fnDiceNextRow.holds Try.pinned (OpenSpec.ofChange fnDiceNextWrong)

/-- 'laws.FnDiceRoll': WHATEVER THE INPUT: true; the input reads as it did. -/
def fnDiceRollSpec : ChangeSpec := { name := "fnDiceRoll", fn := fun _ => fun
  | [d] => { results := [.lit (.bool true)], args := [d] }
  | _ => none }
def fnDiceRollRow : OpenClaim := { program := "ytkhneligclhgaaa", sum := "a795b1de9724073b2ea6b7b69ddd17e9f336100c60d2ecb521073b462851cf1c", func := "loop.example/wapentake/laws.FnDiceRoll", spec := "fnDiceRoll", apart := false }
def FnDiceRollSaid : Prop := fnDiceRollRow.holds Try.pinned (OpenSpec.ofChange fnDiceRollSpec)

/-- ITS FALSE NEIGHBOUR: 'it returns false'. Refute it at one input. -/
def fnDiceRollWrong : ChangeSpec := { name := "fnDiceRoll", fn := fun _ => fun
  | [d] => { results := [.lit (.bool false)], args := [d] }
  | _ => none }
def FnDiceRollWrongFalsely : Prop := fnDiceRollRow.holds Try.pinned (OpenSpec.ofChange fnDiceRollWrong)

/-- 'laws.FnDiceMix': WHATEVER THE INPUT: true; the input reads as it did. -/
def fnDiceMixSpec : ChangeSpec := { name := "fnDiceMix", fn := fun _ => fun
  | [d] => { results := [.lit (.bool true)], args := [d] }
  | _ => none }
def fnDiceMixRow : OpenClaim := { program := "ytkhneligclhgaaa", sum := "a795b1de9724073b2ea6b7b69ddd17e9f336100c60d2ecb521073b462851cf1c", func := "loop.example/wapentake/laws.FnDiceMix", spec := "fnDiceMix", apart := false }
def FnDiceMixSaid : Prop := fnDiceMixRow.holds Try.pinned (OpenSpec.ofChange fnDiceMixSpec)

/-- ITS FALSE NEIGHBOUR: 'it returns false'. Refute it at one input. -/
def fnDiceMixWrong : ChangeSpec := { name := "fnDiceMix", fn := fun _ => fun
  | [d] => { results := [.lit (.bool false)], args := [d] }
  | _ => none }
def FnDiceMixWrongFalsely : Prop := fnDiceMixRow.holds Try.pinned (OpenSpec.ofChange fnDiceMixWrong)

/-- 'laws.FnDiceShuffle': WHATEVER THE INPUT: true; the input reads as it did. -/
def fnDiceShuffleSpec : ChangeSpec := { name := "fnDiceShuffle", fn := fun _ => fun
  | [d] => { results := [.lit (.bool true)], args := [d] }
  | _ => none }
def fnDiceShuffleRow : OpenClaim := { program := "ytkhneligclhgaaa", sum := "a795b1de9724073b2ea6b7b69ddd17e9f336100c60d2ecb521073b462851cf1c", func := "loop.example/wapentake/laws.FnDiceShuffle", spec := "fnDiceShuffle", unfollowed := true, recurses := true, apart := false }
def FnDiceShuffleSaid : Prop := fnDiceShuffleRow.holds Try.pinned (OpenSpec.ofChange fnDiceShuffleSpec)

/-- ITS FALSE NEIGHBOUR: 'it returns false'. Refute it at one input. -/
def fnDiceShuffleWrong : ChangeSpec := { name := "fnDiceShuffle", fn := fun _ => fun
  | [d] => { results := [.lit (.bool false)], args := [d] }
  | _ => none }
def FnDiceShuffleWrongFalsely : Prop := fnDiceShuffleRow.holds Try.pinned (OpenSpec.ofChange fnDiceShuffleWrong)

/-- 'laws.FnDiceBack': WHATEVER THE INPUT: true; the input reads as it did. -/
def fnDiceBackSpec : ChangeSpec := { name := "fnDiceBack", fn := fun _ => fun
  | [d] => { results := [.lit (.bool true)], args := [d] }
  | _ => none }
def fnDiceBackRow : OpenClaim := { program := "ytkhneligclhgaaa", sum := "a795b1de9724073b2ea6b7b69ddd17e9f336100c60d2ecb521073b462851cf1c", func := "loop.example/wapentake/laws.FnDiceBack", spec := "fnDiceBack", unfollowed := true, recurses := true, apart := false }
def FnDiceBackSaid : Prop := fnDiceBackRow.holds Try.pinned (OpenSpec.ofChange fnDiceBackSpec)

/-- ITS FALSE NEIGHBOUR: 'it returns false'. Refute it at one input. -/
def fnDiceBackWrong : ChangeSpec := { name := "fnDiceBack", fn := fun _ => fun
  | [d] => { results := [.lit (.bool false)], args := [d] }
  | _ => none }
def FnDiceBackWrongFalsely : Prop := fnDiceBackRow.holds Try.pinned (OpenSpec.ofChange fnDiceBackWrong)

/-- 'laws.FnExactDiceNext': WHATEVER THE INPUT: true; the input reads as it did. -/
def fnExactDiceNextSpec : ChangeSpec := { name := "fnExactDiceNext", fn := fun _ => fun
  | [d] => { results := [.lit (.bool true)], args := [d] }
  | _ => none }
def fnExactDiceNextRow : OpenClaim := { program := "ytkhneligclhgaaa", sum := "a795b1de9724073b2ea6b7b69ddd17e9f336100c60d2ecb521073b462851cf1c", func := "loop.example/wapentake/laws.FnExactDiceNext", spec := "fnExactDiceNext", apart := false }
def FnExactDiceNextSaid : Prop := fnExactDiceNextRow.holds Try.pinned (OpenSpec.ofChange fnExactDiceNextSpec)

/-- ITS FALSE NEIGHBOUR: 'it returns false'. Refute it at one input. -/
def fnExactDiceNextWrong : ChangeSpec := { name := "fnExactDiceNext", fn := fun _ => fun
  | [d] => { results := [.lit (.bool false)], args := [d] }
  | _ => none }
def FnExactDiceNextWrongFalsely : Prop := fnExactDiceNextRow.holds Try.pinned (OpenSpec.ofChange fnExactDiceNextWrong)

/-- 'laws.FnExactDiceRoll': WHATEVER THE INPUT: true; the input reads as it did. -/
def fnExactDiceRollSpec : ChangeSpec := { name := "fnExactDiceRoll", fn := fun _ => fun
  | [d1, d2] => { results := [.lit (.bool true)], args := [d1, d2] }
  | _ => none }
def fnExactDiceRollRow : OpenClaim := { program := "ytkhneligclhgaaa", sum := "a795b1de9724073b2ea6b7b69ddd17e9f336100c60d2ecb521073b462851cf1c", func := "loop.example/wapentake/laws.FnExactDiceRoll", spec := "fnExactDiceRoll", apart := false }
def FnExactDiceRollSaid : Prop := fnExactDiceRollRow.holds Try.pinned (OpenSpec.ofChange fnExactDiceRollSpec)

/-- ITS FALSE NEIGHBOUR: 'it returns false'. Refute it at one input. -/
def fnExactDiceRollWrong : ChangeSpec := { name := "fnExactDiceRoll", fn := fun _ => fun
  | [d1, d2] => { results := [.lit (.bool false)], args := [d1, d2] }
  | _ => none }
def FnExactDiceRollWrongFalsely : Prop := fnExactDiceRollRow.holds Try.pinned (OpenSpec.ofChange fnExactDiceRollWrong)

/-- 'laws.FnExactDiceMix': WHATEVER THE INPUT: true; the input reads as it did. -/
def fnExactDiceMixSpec : ChangeSpec := { name := "fnExactDiceMix", fn := fun _ => fun
  | [d] => { results := [.lit (.bool true)], args := [d] }
  | _ => none }
def fnExactDiceMixRow : OpenClaim := { program := "ytkhneligclhgaaa", sum := "a795b1de9724073b2ea6b7b69ddd17e9f336100c60d2ecb521073b462851cf1c", func := "loop.example/wapentake/laws.FnExactDiceMix", spec := "fnExactDiceMix", apart := false }
def FnExactDiceMixSaid : Prop := fnExactDiceMixRow.holds Try.pinned (OpenSpec.ofChange fnExactDiceMixSpec)

/-- ITS FALSE NEIGHBOUR: 'it returns false'. Refute it at one input. -/
def fnExactDiceMixWrong : ChangeSpec := { name := "fnExactDiceMix", fn := fun _ => fun
  | [d] => { results := [.lit (.bool false)], args := [d] }
  | _ => none }
def FnExactDiceMixWrongFalsely : Prop := fnExactDiceMixRow.holds Try.pinned (OpenSpec.ofChange fnExactDiceMixWrong)

/-- 'laws.FnExactDiceShuffle': WHATEVER THE INPUT: true; the input reads as it did. -/
def fnExactDiceShuffleSpec : ChangeSpec := { name := "fnExactDiceShuffle", fn := fun _ => fun
  | [d1, d2] => { results := [.lit (.bool true)], args := [d1, d2] }
  | _ => none }
def fnExactDiceShuffleRow : OpenClaim := { program := "ytkhneligclhgaaa", sum := "a795b1de9724073b2ea6b7b69ddd17e9f336100c60d2ecb521073b462851cf1c", func := "loop.example/wapentake/laws.FnExactDiceShuffle", spec := "fnExactDiceShuffle", unfollowed := true, recurses := true, apart := false }
def FnExactDiceShuffleSaid : Prop := fnExactDiceShuffleRow.holds Try.pinned (OpenSpec.ofChange fnExactDiceShuffleSpec)

/-- ITS FALSE NEIGHBOUR: 'it returns false'. Refute it at one input. -/
def fnExactDiceShuffleWrong : ChangeSpec := { name := "fnExactDiceShuffle", fn := fun _ => fun
  | [d1, d2] => { results := [.lit (.bool false)], args := [d1, d2] }
  | _ => none }
def FnExactDiceShuffleWrongFalsely : Prop := fnExactDiceShuffleRow.holds Try.pinned (OpenSpec.ofChange fnExactDiceShuffleWrong)

/-- 'laws.FnExactDiceBack': WHATEVER THE INPUT: true; the input reads as it did. -/
def fnExactDiceBackSpec : ChangeSpec := { name := "fnExactDiceBack", fn := fun _ => fun
  | [d1, d2] => { results := [.lit (.bool true)], args := [d1, d2] }
  | _ => none }
def fnExactDiceBackRow : OpenClaim := { program := "ytkhneligclhgaaa", sum := "a795b1de9724073b2ea6b7b69ddd17e9f336100c60d2ecb521073b462851cf1c", func := "loop.example/wapentake/laws.FnExactDiceBack", spec := "fnExactDiceBack", unfollowed := true, recurses := true, apart := false }
def FnExactDiceBackSaid : Prop := fnExactDiceBackRow.holds Try.pinned (OpenSpec.ofChange fnExactDiceBackSpec)

/-- ITS FALSE NEIGHBOUR: 'it returns false'. Refute it at one input. -/
def fnExactDiceBackWrong : ChangeSpec := { name := "fnExactDiceBack", fn := fun _ => fun
  | [d1, d2] => { results := [.lit (.bool false)], args := [d1, d2] }
  | _ => none }
def FnExactDiceBackWrongFalsely : Prop := fnExactDiceBackRow.holds Try.pinned (OpenSpec.ofChange fnExactDiceBackWrong)

/- THE SECOND FORM. 'bulk': how many values and letters a reading holds, each counted each time it is reached (what is shared counts as often as it is met; a slice's spare places count too). A statement '..UptoSaid' is the law's where the arguments, and the package variables that the reading takes, are together of bulk at most 1048576: NARROWER than '..Said'. Prove '..Said' where nothing that the law and all that it calls make is longer than what came in: it says more and counts as full. Else prove '..UptoSaid'. A law counts once. -/
mutual
def uptoBulk {H : Type} : DataW H → Nat
  | .lit (.string bytes) => bytes.length + 1
  | .lit _ => 1
  | .nil => 1
  | .ptr d => uptoBulk d + 1
  | .slice elems spare => uptoBulkAll elems + uptoBulkAll spare + 1
  | .agg parts => uptoBulkAll parts + 1
  | .iface _ d => uptoBulk d + 1
  | .map entries => uptoBulkEntries entries + 1
  | .held _ => 1
def uptoBulkAll {H : Type} : List (DataW H) → Nat
  | [] => 0
  | d :: r => uptoBulk d + uptoBulkAll r
def uptoBulkEntries {H : Type} : List (Lit × DataW H) → Nat
  | [] => 0
  | x :: r => uptoBulkEntry x + uptoBulkEntries r
def uptoBulkEntry {H : Type} : Lit × DataW H → Nat
  | (.string bytes, d) => bytes.length + uptoBulk d + 1
  | (_, d) => uptoBulk d + 1
 end
def uptoSmall : (H : Type) → List (DataW H) → Bool := fun _ ds => decide (uptoBulkAll ds ≤ 1048576)
def OpenSpec.upto (s : _root_.Go.ChangeSpec) : _root_.Go.OpenSpec := { _root_.Go.OpenSpec.ofChange s with cond := some uptoSmall }

/-- 'laws.FnDiceNext', WHERE WHAT IT READS IS OF BULK AT MOST 1048576: true; the input reads as it did. -/
def fnDiceNextUptoRow : OpenClaim := { program := "ytkhneligclhgaaa", sum := "a795b1de9724073b2ea6b7b69ddd17e9f336100c60d2ecb521073b462851cf1c", func := "loop.example/wapentake/laws.FnDiceNext", spec := "fnDiceNext", apart := false, narrowed := true }
def FnDiceNextUptoSaid : Prop := fnDiceNextUptoRow.holds Try.pinned (OpenSpec.upto fnDiceNextSpec)

/-- 'laws.FnDiceRoll', WHERE WHAT IT READS IS OF BULK AT MOST 1048576: true; the input reads as it did. -/
def fnDiceRollUptoRow : OpenClaim := { program := "ytkhneligclhgaaa", sum := "a795b1de9724073b2ea6b7b69ddd17e9f336100c60d2ecb521073b462851cf1c", func := "loop.example/wapentake/laws.FnDiceRoll", spec := "fnDiceRoll", apart := false, narrowed := true }
def FnDiceRollUptoSaid : Prop := fnDiceRollUptoRow.holds Try.pinned (OpenSpec.upto fnDiceRollSpec)

/-- 'laws.FnDiceMix', WHERE WHAT IT READS IS OF BULK AT MOST 1048576: true; the input reads as it did. -/
def fnDiceMixUptoRow : OpenClaim := { program := "ytkhneligclhgaaa", sum := "a795b1de9724073b2ea6b7b69ddd17e9f336100c60d2ecb521073b462851cf1c", func := "loop.example/wapentake/laws.FnDiceMix", spec := "fnDiceMix", apart := false, narrowed := true }
def FnDiceMixUptoSaid : Prop := fnDiceMixUptoRow.holds Try.pinned (OpenSpec.upto fnDiceMixSpec)

/-- 'laws.FnDiceShuffle', WHERE WHAT IT READS IS OF BULK AT MOST 1048576: true; the input reads as it did. -/
def fnDiceShuffleUptoRow : OpenClaim := { program := "ytkhneligclhgaaa", sum := "a795b1de9724073b2ea6b7b69ddd17e9f336100c60d2ecb521073b462851cf1c", func := "loop.example/wapentake/laws.FnDiceShuffle", spec := "fnDiceShuffle", unfollowed := true, recurses := true, apart := false, narrowed := true }
def FnDiceShuffleUptoSaid : Prop := fnDiceShuffleUptoRow.holds Try.pinned (OpenSpec.upto fnDiceShuffleSpec)

/-- 'laws.FnDiceBack', WHERE WHAT IT READS IS OF BULK AT MOST 1048576: true; the input reads as it did. -/
def fnDiceBackUptoRow : OpenClaim := { program := "ytkhneligclhgaaa", sum := "a795b1de9724073b2ea6b7b69ddd17e9f336100c60d2ecb521073b462851cf1c", func := "loop.example/wapentake/laws.FnDiceBack", spec := "fnDiceBack", unfollowed := true, recurses := true, apart := false, narrowed := true }
def FnDiceBackUptoSaid : Prop := fnDiceBackUptoRow.holds Try.pinned (OpenSpec.upto fnDiceBackSpec)

/-- 'laws.FnExactDiceNext', WHERE WHAT IT READS IS OF BULK AT MOST 1048576: true; the input reads as it did. -/
def fnExactDiceNextUptoRow : OpenClaim := { program := "ytkhneligclhgaaa", sum := "a795b1de9724073b2ea6b7b69ddd17e9f336100c60d2ecb521073b462851cf1c", func := "loop.example/wapentake/laws.FnExactDiceNext", spec := "fnExactDiceNext", apart := false, narrowed := true }
def FnExactDiceNextUptoSaid : Prop := fnExactDiceNextUptoRow.holds Try.pinned (OpenSpec.upto fnExactDiceNextSpec)

/-- 'laws.FnExactDiceRoll', WHERE WHAT IT READS IS OF BULK AT MOST 1048576: true; the input reads as it did. -/
def fnExactDiceRollUptoRow : OpenClaim := { program := "ytkhneligclhgaaa", sum := "a795b1de9724073b2ea6b7b69ddd17e9f336100c60d2ecb521073b462851cf1c", func := "loop.example/wapentake/laws.FnExactDiceRoll", spec := "fnExactDiceRoll", apart := false, narrowed := true }
def FnExactDiceRollUptoSaid : Prop := fnExactDiceRollUptoRow.holds Try.pinned (OpenSpec.upto fnExactDiceRollSpec)

/-- 'laws.FnExactDiceMix', WHERE WHAT IT READS IS OF BULK AT MOST 1048576: true; the input reads as it did. -/
def fnExactDiceMixUptoRow : OpenClaim := { program := "ytkhneligclhgaaa", sum := "a795b1de9724073b2ea6b7b69ddd17e9f336100c60d2ecb521073b462851cf1c", func := "loop.example/wapentake/laws.FnExactDiceMix", spec := "fnExactDiceMix", apart := false, narrowed := true }
def FnExactDiceMixUptoSaid : Prop := fnExactDiceMixUptoRow.holds Try.pinned (OpenSpec.upto fnExactDiceMixSpec)

/-- 'laws.FnExactDiceShuffle', WHERE WHAT IT READS IS OF BULK AT MOST 1048576: true; the input reads as it did. -/
def fnExactDiceShuffleUptoRow : OpenClaim := { program := "ytkhneligclhgaaa", sum := "a795b1de9724073b2ea6b7b69ddd17e9f336100c60d2ecb521073b462851cf1c", func := "loop.example/wapentake/laws.FnExactDiceShuffle", spec := "fnExactDiceShuffle", unfollowed := true, recurses := true, apart := false, narrowed := true }
def FnExactDiceShuffleUptoSaid : Prop := fnExactDiceShuffleUptoRow.holds Try.pinned (OpenSpec.upto fnExactDiceShuffleSpec)

/-- 'laws.FnExactDiceBack', WHERE WHAT IT READS IS OF BULK AT MOST 1048576: true; the input reads as it did. -/
def fnExactDiceBackUptoRow : OpenClaim := { program := "ytkhneligclhgaaa", sum := "a795b1de9724073b2ea6b7b69ddd17e9f336100c60d2ecb521073b462851cf1c", func := "loop.example/wapentake/laws.FnExactDiceBack", spec := "fnExactDiceBack", unfollowed := true, recurses := true, apart := false, narrowed := true }
def FnExactDiceBackUptoSaid : Prop := fnExactDiceBackUptoRow.holds Try.pinned (OpenSpec.upto fnExactDiceBackSpec)

end Rows
end Go.Proofs.Ytkhneligclhgaaa
