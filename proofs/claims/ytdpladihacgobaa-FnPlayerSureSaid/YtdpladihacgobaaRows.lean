/-
  No cell of these rows narrows 'for every input' (looked for: loops, veiled, ifaces, maps, wideKeys, modest, calm, conditions, laid).
  DERIVED. THE GIVEN ROWS OF THIS SEAT. 7 by the template 'for every input the law returns true; each argument reads behind the call as it read before'; 0 by the template 'total and deterministic' (their statements: YtdpladihacgobaaTotals.lean).
  GIVEN WITH THE SEED: the statements are not yours to turn. If you find one false, say at which input.
  Laid BY PROGRAM, IN A SANDBOX (cutbox-rows.mjs): the forced cells as the released guide's own fill.sh prints them over the translation 982679d1cb7c6546… (all of the seat's roots in one cut). By AI agents, Wed Nov 11 2026. No macro, syntax, notation, axiom, sorry.
-/
import Derived.Test.YtdpladihacgobaaChecked
import GoSem.Claim
import GoSem.ClaimJoined
import GoSem.ClaimMapViews
import Derived.JoinedTies
import Derived.KernelRfl
namespace Go.Proofs.Ytdpladihacgobaa
/- THE CELL 'sum', in the pinned program and in every row, IS THE sha256 OF THE DUMP (.gsa) THAT YtdpladihacgobaaProg.lean LOADS. Nothing in Lean hashes anything: it is a label: what it is worth is what the hold of that sum in a sandbox is worth. -/
noncomputable def Try.pinned : Pinned := { name := "ytdpladihacgobaa", sum := "982679d1cb7c6546b2444cb7864a1b708b45d9adceae93ad43a2018b42edf539", checked := Try.checked }
namespace Rows
def none {H : Type} : Left H := { results := [], args := [] }

/-- 'laws.FnPlayerHear': WHATEVER THE INPUT: true; the input reads as it did. -/
def fnPlayerHearSpec : ChangeSpec := { name := "fnPlayerHear", fn := fun _ => fun
  | [d] => { results := [.lit (.bool true)], args := [d] }
  | _ => none }
def fnPlayerHearRow : OpenClaim := { program := "ytdpladihacgobaa", sum := "982679d1cb7c6546b2444cb7864a1b708b45d9adceae93ad43a2018b42edf539", func := "loop.example/wapentake/laws.FnPlayerHear", spec := "fnPlayerHear", unfollowed := true, recurses := true, apart := false }
def FnPlayerHearSaid : Prop := fnPlayerHearRow.holds Try.pinned (OpenSpec.ofChange fnPlayerHearSpec)

/-- ITS FALSE NEIGHBOUR: 'it returns false'. Refute it at one input. -/
def fnPlayerHearWrong : ChangeSpec := { name := "fnPlayerHear", fn := fun _ => fun
  | [d] => { results := [.lit (.bool false)], args := [d] }
  | _ => none }
def FnPlayerHearWrongFalsely : Prop := fnPlayerHearRow.holds Try.pinned (OpenSpec.ofChange fnPlayerHearWrong)

/-- 'laws.FnPlayerSure': WHATEVER THE INPUT: true; the input reads as it did. -/
def fnPlayerSureSpec : ChangeSpec := { name := "fnPlayerSure", fn := fun _ => fun
  | [d] => { results := [.lit (.bool true)], args := [d] }
  | _ => none }
def fnPlayerSureRow : OpenClaim := { program := "ytdpladihacgobaa", sum := "982679d1cb7c6546b2444cb7864a1b708b45d9adceae93ad43a2018b42edf539", func := "loop.example/wapentake/laws.FnPlayerSure", spec := "fnPlayerSure", unfollowed := true, recurses := true, apart := false }
def FnPlayerSureSaid : Prop := fnPlayerSureRow.holds Try.pinned (OpenSpec.ofChange fnPlayerSureSpec)

/-- ITS FALSE NEIGHBOUR: 'it returns false'. Refute it at one input. -/
def fnPlayerSureWrong : ChangeSpec := { name := "fnPlayerSure", fn := fun _ => fun
  | [d] => { results := [.lit (.bool false)], args := [d] }
  | _ => none }
def FnPlayerSureWrongFalsely : Prop := fnPlayerSureRow.holds Try.pinned (OpenSpec.ofChange fnPlayerSureWrong)

/-- 'laws.FnPlayerAsk': WHATEVER THE INPUT: true; the input reads as it did. -/
def fnPlayerAskSpec : ChangeSpec := { name := "fnPlayerAsk", fn := fun _ => fun
  | [d] => { results := [.lit (.bool true)], args := [d] }
  | _ => none }
def fnPlayerAskRow : OpenClaim := { program := "ytdpladihacgobaa", sum := "982679d1cb7c6546b2444cb7864a1b708b45d9adceae93ad43a2018b42edf539", func := "loop.example/wapentake/laws.FnPlayerAsk", spec := "fnPlayerAsk", unfollowed := true, recurses := true, apart := false }
def FnPlayerAskSaid : Prop := fnPlayerAskRow.holds Try.pinned (OpenSpec.ofChange fnPlayerAskSpec)

/-- ITS FALSE NEIGHBOUR: 'it returns false'. Refute it at one input. -/
def fnPlayerAskWrong : ChangeSpec := { name := "fnPlayerAsk", fn := fun _ => fun
  | [d] => { results := [.lit (.bool false)], args := [d] }
  | _ => none }
def FnPlayerAskWrongFalsely : Prop := fnPlayerAskRow.holds Try.pinned (OpenSpec.ofChange fnPlayerAskWrong)

/-- 'laws.FnExactPlayerOk': WHATEVER THE INPUT: true; the input reads as it did. -/
def fnExactPlayerOkSpec : ChangeSpec := { name := "fnExactPlayerOk", fn := fun _ => fun
  | [d] => { results := [.lit (.bool true)], args := [d] }
  | _ => none }
def fnExactPlayerOkRow : OpenClaim := { program := "ytdpladihacgobaa", sum := "982679d1cb7c6546b2444cb7864a1b708b45d9adceae93ad43a2018b42edf539", func := "loop.example/wapentake/laws.FnExactPlayerOk", spec := "fnExactPlayerOk", unfollowed := true, recurses := true, apart := false }
def FnExactPlayerOkSaid : Prop := fnExactPlayerOkRow.holds Try.pinned (OpenSpec.ofChange fnExactPlayerOkSpec)

/-- ITS FALSE NEIGHBOUR: 'it returns false'. Refute it at one input. -/
def fnExactPlayerOkWrong : ChangeSpec := { name := "fnExactPlayerOk", fn := fun _ => fun
  | [d] => { results := [.lit (.bool false)], args := [d] }
  | _ => none }
def FnExactPlayerOkWrongFalsely : Prop := fnExactPlayerOkRow.holds Try.pinned (OpenSpec.ofChange fnExactPlayerOkWrong)

/-- 'laws.FnExactPlayerHear': WHATEVER THE INPUT: true; the input reads as it did. -/
def fnExactPlayerHearSpec : ChangeSpec := { name := "fnExactPlayerHear", fn := fun _ => fun
  | [d1, d2] => { results := [.lit (.bool true)], args := [d1, d2] }
  | _ => none }
def fnExactPlayerHearRow : OpenClaim := { program := "ytdpladihacgobaa", sum := "982679d1cb7c6546b2444cb7864a1b708b45d9adceae93ad43a2018b42edf539", func := "loop.example/wapentake/laws.FnExactPlayerHear", spec := "fnExactPlayerHear", unfollowed := true, recurses := true, apart := false }
def FnExactPlayerHearSaid : Prop := fnExactPlayerHearRow.holds Try.pinned (OpenSpec.ofChange fnExactPlayerHearSpec)

/-- ITS FALSE NEIGHBOUR: 'it returns false'. Refute it at one input. -/
def fnExactPlayerHearWrong : ChangeSpec := { name := "fnExactPlayerHear", fn := fun _ => fun
  | [d1, d2] => { results := [.lit (.bool false)], args := [d1, d2] }
  | _ => none }
def FnExactPlayerHearWrongFalsely : Prop := fnExactPlayerHearRow.holds Try.pinned (OpenSpec.ofChange fnExactPlayerHearWrong)

/-- 'laws.FnExactPlayerSure': WHATEVER THE INPUT: true; the input reads as it did. -/
def fnExactPlayerSureSpec : ChangeSpec := { name := "fnExactPlayerSure", fn := fun _ => fun
  | [d] => { results := [.lit (.bool true)], args := [d] }
  | _ => none }
def fnExactPlayerSureRow : OpenClaim := { program := "ytdpladihacgobaa", sum := "982679d1cb7c6546b2444cb7864a1b708b45d9adceae93ad43a2018b42edf539", func := "loop.example/wapentake/laws.FnExactPlayerSure", spec := "fnExactPlayerSure", unfollowed := true, recurses := true, apart := false }
def FnExactPlayerSureSaid : Prop := fnExactPlayerSureRow.holds Try.pinned (OpenSpec.ofChange fnExactPlayerSureSpec)

/-- ITS FALSE NEIGHBOUR: 'it returns false'. Refute it at one input. -/
def fnExactPlayerSureWrong : ChangeSpec := { name := "fnExactPlayerSure", fn := fun _ => fun
  | [d] => { results := [.lit (.bool false)], args := [d] }
  | _ => none }
def FnExactPlayerSureWrongFalsely : Prop := fnExactPlayerSureRow.holds Try.pinned (OpenSpec.ofChange fnExactPlayerSureWrong)

/-- 'laws.FnExactPlayerAsk': WHATEVER THE INPUT: true; the input reads as it did. -/
def fnExactPlayerAskSpec : ChangeSpec := { name := "fnExactPlayerAsk", fn := fun _ => fun
  | [d1, d2] => { results := [.lit (.bool true)], args := [d1, d2] }
  | _ => none }
def fnExactPlayerAskRow : OpenClaim := { program := "ytdpladihacgobaa", sum := "982679d1cb7c6546b2444cb7864a1b708b45d9adceae93ad43a2018b42edf539", func := "loop.example/wapentake/laws.FnExactPlayerAsk", spec := "fnExactPlayerAsk", unfollowed := true, recurses := true, apart := false }
def FnExactPlayerAskSaid : Prop := fnExactPlayerAskRow.holds Try.pinned (OpenSpec.ofChange fnExactPlayerAskSpec)

/-- ITS FALSE NEIGHBOUR: 'it returns false'. Refute it at one input. -/
def fnExactPlayerAskWrong : ChangeSpec := { name := "fnExactPlayerAsk", fn := fun _ => fun
  | [d1, d2] => { results := [.lit (.bool false)], args := [d1, d2] }
  | _ => none }
def FnExactPlayerAskWrongFalsely : Prop := fnExactPlayerAskRow.holds Try.pinned (OpenSpec.ofChange fnExactPlayerAskWrong)

/- THE SECOND FORM. 'bulk': how many values and letters a reading holds, each counted each time it is reached (what is shared counts as often as it is met; a slice's spare places count too). A statement '..UptoSaid' is the law's where the arguments, and the package variables that the reading takes, are together of bulk at most 1048576: NARROWER than '..Said'. Prove '..Said' where nothing that the law and all that it calls make is longer than what came in: it says more and counts as full. Else prove '..UptoSaid'. A law counts once. -/
mutual
def uptoBulk {H : Type} : DataW H → Nat
  | .lit (.string bytes) => bytes.length + 1
  | .lit _ => 1
  | .nil => 1
  | .ptr d => uptoBulk d + 1
  | .slice elems spare => uptoBulkAll elems + uptoBulkAll spare + 1
  | .agg parts => uptoBulkAll parts + 1
  | .iface _ d => uptoBulk d + 1
  | .map entries => uptoBulkEntries entries + 1
  | .held _ => 1
def uptoBulkAll {H : Type} : List (DataW H) → Nat
  | [] => 0
  | d :: r => uptoBulk d + uptoBulkAll r
def uptoBulkEntries {H : Type} : List (Lit × DataW H) → Nat
  | [] => 0
  | x :: r => uptoBulkEntry x + uptoBulkEntries r
def uptoBulkEntry {H : Type} : Lit × DataW H → Nat
  | (.string bytes, d) => bytes.length + uptoBulk d + 1
  | (_, d) => uptoBulk d + 1
 end
def uptoSmall : (H : Type) → List (DataW H) → Bool := fun _ ds => decide (uptoBulkAll ds ≤ 1048576)
def OpenSpec.upto (s : _root_.Go.ChangeSpec) : _root_.Go.OpenSpec := { _root_.Go.OpenSpec.ofChange s with cond := some uptoSmall }

/-- 'laws.FnPlayerHear', WHERE WHAT IT READS IS OF BULK AT MOST 1048576: true; the input reads as it did. -/
def fnPlayerHearUptoRow : OpenClaim := { program := "ytdpladihacgobaa", sum := "982679d1cb7c6546b2444cb7864a1b708b45d9adceae93ad43a2018b42edf539", func := "loop.example/wapentake/laws.FnPlayerHear", spec := "fnPlayerHear", unfollowed := true, recurses := true, apart := false, narrowed := true }
def FnPlayerHearUptoSaid : Prop := fnPlayerHearUptoRow.holds Try.pinned (OpenSpec.upto fnPlayerHearSpec)

/-- 'laws.FnPlayerSure', WHERE WHAT IT READS IS OF BULK AT MOST 1048576: true; the input reads as it did. -/
def fnPlayerSureUptoRow : OpenClaim := { program := "ytdpladihacgobaa", sum := "982679d1cb7c6546b2444cb7864a1b708b45d9adceae93ad43a2018b42edf539", func := "loop.example/wapentake/laws.FnPlayerSure", spec := "fnPlayerSure", unfollowed := true, recurses := true, apart := false, narrowed := true }
def FnPlayerSureUptoSaid : Prop := fnPlayerSureUptoRow.holds Try.pinned (OpenSpec.upto fnPlayerSureSpec)

/-- 'laws.FnPlayerAsk', WHERE WHAT IT READS IS OF BULK AT MOST 1048576: true; the input reads as it did. -/
def fnPlayerAskUptoRow : OpenClaim := { program := "ytdpladihacgobaa", sum := "982679d1cb7c6546b2444cb7864a1b708b45d9adceae93ad43a2018b42edf539", func := "loop.example/wapentake/laws.FnPlayerAsk", spec := "fnPlayerAsk", unfollowed := true, recurses := true, apart := false, narrowed := true }
def FnPlayerAskUptoSaid : Prop := fnPlayerAskUptoRow.holds Try.pinned (OpenSpec.upto fnPlayerAskSpec)

/-- 'laws.FnExactPlayerOk', WHERE WHAT IT READS IS OF BULK AT MOST 1048576: true; the input reads as it did. -/
def fnExactPlayerOkUptoRow : OpenClaim := { program := "ytdpladihacgobaa", sum := "982679d1cb7c6546b2444cb7864a1b708b45d9adceae93ad43a2018b42edf539", func := "loop.example/wapentake/laws.FnExactPlayerOk", spec := "fnExactPlayerOk", unfollowed := true, recurses := true, apart := false, narrowed := true }
def FnExactPlayerOkUptoSaid : Prop := fnExactPlayerOkUptoRow.holds Try.pinned (OpenSpec.upto fnExactPlayerOkSpec)

/-- 'laws.FnExactPlayerHear', WHERE WHAT IT READS IS OF BULK AT MOST 1048576: true; the input reads as it did. -/
def fnExactPlayerHearUptoRow : OpenClaim := { program := "ytdpladihacgobaa", sum := "982679d1cb7c6546b2444cb7864a1b708b45d9adceae93ad43a2018b42edf539", func := "loop.example/wapentake/laws.FnExactPlayerHear", spec := "fnExactPlayerHear", unfollowed := true, recurses := true, apart := false, narrowed := true }
def FnExactPlayerHearUptoSaid : Prop := fnExactPlayerHearUptoRow.holds Try.pinned (OpenSpec.upto fnExactPlayerHearSpec)

/-- 'laws.FnExactPlayerSure', WHERE WHAT IT READS IS OF BULK AT MOST 1048576: true; the input reads as it did. -/
def fnExactPlayerSureUptoRow : OpenClaim := { program := "ytdpladihacgobaa", sum := "982679d1cb7c6546b2444cb7864a1b708b45d9adceae93ad43a2018b42edf539", func := "loop.example/wapentake/laws.FnExactPlayerSure", spec := "fnExactPlayerSure", unfollowed := true, recurses := true, apart := false, narrowed := true }
def FnExactPlayerSureUptoSaid : Prop := fnExactPlayerSureUptoRow.holds Try.pinned (OpenSpec.upto fnExactPlayerSureSpec)

/-- 'laws.FnExactPlayerAsk', WHERE WHAT IT READS IS OF BULK AT MOST 1048576: true; the input reads as it did. -/
def fnExactPlayerAskUptoRow : OpenClaim := { program := "ytdpladihacgobaa", sum := "982679d1cb7c6546b2444cb7864a1b708b45d9adceae93ad43a2018b42edf539", func := "loop.example/wapentake/laws.FnExactPlayerAsk", spec := "fnExactPlayerAsk", unfollowed := true, recurses := true, apart := false, narrowed := true }
def FnExactPlayerAskUptoSaid : Prop := fnExactPlayerAskUptoRow.holds Try.pinned (OpenSpec.upto fnExactPlayerAskSpec)

end Rows
end Go.Proofs.Ytdpladihacgobaa
