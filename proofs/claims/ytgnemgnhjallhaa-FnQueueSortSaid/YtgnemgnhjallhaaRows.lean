/-
  No cell of these rows narrows 'for every input' (looked for: loops, veiled, ifaces, maps, wideKeys, modest, calm, conditions, laid).
  DERIVED. THE GIVEN ROWS OF THIS SEAT. 9 by the template 'for every input the law returns true; each argument reads behind the call as it read before'; 0 by the template 'total and deterministic' (their statements: YtgnemgnhjallhaaTotals.lean).
  GIVEN WITH THE SEED: the statements are not yours to turn. If you find one false, say at which input.
  Laid BY PROGRAM, IN A SANDBOX (cutbox-rows.mjs): the forced cells as the released guide's own fill.sh prints them over the translation d62071ade57b57f6… (all of the seat's roots in one cut). By AI agents, Wed Nov 11 2026. No macro, syntax, notation, axiom, sorry.
-/
import Derived.Test.YtgnemgnhjallhaaChecked
import GoSem.Claim
import GoSem.ClaimJoined
import GoSem.ClaimMapViews
import Derived.JoinedTies
import Derived.KernelRfl
namespace Go.Proofs.Ytgnemgnhjallhaa
/- THE CELL 'sum', in the pinned program and in every row, IS THE sha256 OF THE DUMP (.gsa) THAT YtgnemgnhjallhaaProg.lean LOADS. Nothing in Lean hashes anything: it is a label: what it is worth is what the hold of that sum in a sandbox is worth. -/
noncomputable def Try.pinned : Pinned := { name := "ytgnemgnhjallhaa", sum := "d62071ade57b57f6fd7f60799787da841816720f894ca427689f0c0e8b603ad5", checked := Try.checked }
namespace Rows
def none {H : Type} : Left H := { results := [], args := [] }

/-- 'laws.FnQueueAdd': WHATEVER THE INPUT: true; the input reads as it did. -/
def fnQueueAddSpec : ChangeSpec := { name := "fnQueueAdd", fn := fun _ => fun
  | [d] => { results := [.lit (.bool true)], args := [d] }
  | _ => none }
def fnQueueAddRow : OpenClaim := { program := "ytgnemgnhjallhaa", sum := "d62071ade57b57f6fd7f60799787da841816720f894ca427689f0c0e8b603ad5", func := "loop.example/wapentake/laws.FnQueueAdd", spec := "fnQueueAdd", unfollowed := true, recurses := true, plainKeys := false, apart := false }
def FnQueueAddSaid : Prop := fnQueueAddRow.holds Try.pinned (OpenSpec.ofChange fnQueueAddSpec)

/-- ITS FALSE NEIGHBOUR: 'it returns false'. Refute it at one input. -/
def fnQueueAddWrong : ChangeSpec := { name := "fnQueueAdd", fn := fun _ => fun
  | [d] => { results := [.lit (.bool false)], args := [d] }
  | _ => none }
def FnQueueAddWrongFalsely : Prop := fnQueueAddRow.holds Try.pinned (OpenSpec.ofChange fnQueueAddWrong)

/-- 'laws.FnQueueNext': WHATEVER THE INPUT: true; the input reads as it did. -/
def fnQueueNextSpec : ChangeSpec := { name := "fnQueueNext", fn := fun _ => fun
  | [d] => { results := [.lit (.bool true)], args := [d] }
  | _ => none }
def fnQueueNextRow : OpenClaim := { program := "ytgnemgnhjallhaa", sum := "d62071ade57b57f6fd7f60799787da841816720f894ca427689f0c0e8b603ad5", func := "loop.example/wapentake/laws.FnQueueNext", spec := "fnQueueNext", unfollowed := true, recurses := true, plainKeys := false, apart := false }
def FnQueueNextSaid : Prop := fnQueueNextRow.holds Try.pinned (OpenSpec.ofChange fnQueueNextSpec)

/-- ITS FALSE NEIGHBOUR: 'it returns false'. Refute it at one input. -/
def fnQueueNextWrong : ChangeSpec := { name := "fnQueueNext", fn := fun _ => fun
  | [d] => { results := [.lit (.bool false)], args := [d] }
  | _ => none }
def FnQueueNextWrongFalsely : Prop := fnQueueNextRow.holds Try.pinned (OpenSpec.ofChange fnQueueNextWrong)

/-- 'laws.FnQueueTill': WHATEVER THE INPUT: true; the input reads as it did. -/
def fnQueueTillSpec : ChangeSpec := { name := "fnQueueTill", fn := fun _ => fun
  | [d] => { results := [.lit (.bool true)], args := [d] }
  | _ => none }
def fnQueueTillRow : OpenClaim := { program := "ytgnemgnhjallhaa", sum := "d62071ade57b57f6fd7f60799787da841816720f894ca427689f0c0e8b603ad5", func := "loop.example/wapentake/laws.FnQueueTill", spec := "fnQueueTill", unfollowed := true, recurses := true, plainKeys := false, apart := false }
def FnQueueTillSaid : Prop := fnQueueTillRow.holds Try.pinned (OpenSpec.ofChange fnQueueTillSpec)

/-- ITS FALSE NEIGHBOUR: 'it returns false'. Refute it at one input. -/
def fnQueueTillWrong : ChangeSpec := { name := "fnQueueTill", fn := fun _ => fun
  | [d] => { results := [.lit (.bool false)], args := [d] }
  | _ => none }
def FnQueueTillWrongFalsely : Prop := fnQueueTillRow.holds Try.pinned (OpenSpec.ofChange fnQueueTillWrong)

/-- 'laws.FnQueueSort': WHATEVER THE INPUT: true; the input reads as it did. -/
def fnQueueSortSpec : ChangeSpec := { name := "fnQueueSort", fn := fun _ => fun
  | [d] => { results := [.lit (.bool true)], args := [d] }
  | _ => none }
def fnQueueSortRow : OpenClaim := { program := "ytgnemgnhjallhaa", sum := "d62071ade57b57f6fd7f60799787da841816720f894ca427689f0c0e8b603ad5", func := "loop.example/wapentake/laws.FnQueueSort", spec := "fnQueueSort", unfollowed := true, recurses := true, plainKeys := false, apart := false }
def FnQueueSortSaid : Prop := fnQueueSortRow.holds Try.pinned (OpenSpec.ofChange fnQueueSortSpec)

/-- ITS FALSE NEIGHBOUR: 'it returns false'. Refute it at one input. -/
def fnQueueSortWrong : ChangeSpec := { name := "fnQueueSort", fn := fun _ => fun
  | [d] => { results := [.lit (.bool false)], args := [d] }
  | _ => none }
def FnQueueSortWrongFalsely : Prop := fnQueueSortRow.holds Try.pinned (OpenSpec.ofChange fnQueueSortWrong)

/-- 'laws.FnExactQueueOk': WHATEVER THE INPUT: true; the input reads as it did. -/
def fnExactQueueOkSpec : ChangeSpec := { name := "fnExactQueueOk", fn := fun _ => fun
  | [d] => { results := [.lit (.bool true)], args := [d] }
  | _ => none }
def fnExactQueueOkRow : OpenClaim := { program := "ytgnemgnhjallhaa", sum := "d62071ade57b57f6fd7f60799787da841816720f894ca427689f0c0e8b603ad5", func := "loop.example/wapentake/laws.FnExactQueueOk", spec := "fnExactQueueOk", unfollowed := true, recurses := true, plainKeys := false, apart := false }
def FnExactQueueOkSaid : Prop := fnExactQueueOkRow.holds Try.pinned (OpenSpec.ofChange fnExactQueueOkSpec)

/-- ITS FALSE NEIGHBOUR: 'it returns false'. Refute it at one input. -/
def fnExactQueueOkWrong : ChangeSpec := { name := "fnExactQueueOk", fn := fun _ => fun
  | [d] => { results := [.lit (.bool false)], args := [d] }
  | _ => none }
def FnExactQueueOkWrongFalsely : Prop := fnExactQueueOkRow.holds Try.pinned (OpenSpec.ofChange fnExactQueueOkWrong)

/-- 'laws.FnExactQueueAdd': WHATEVER THE INPUT: true; the input reads as it did. -/
def fnExactQueueAddSpec : ChangeSpec := { name := "fnExactQueueAdd", fn := fun _ => fun
  | [d1, d2] => { results := [.lit (.bool true)], args := [d1, d2] }
  | _ => none }
def fnExactQueueAddRow : OpenClaim := { program := "ytgnemgnhjallhaa", sum := "d62071ade57b57f6fd7f60799787da841816720f894ca427689f0c0e8b603ad5", func := "loop.example/wapentake/laws.FnExactQueueAdd", spec := "fnExactQueueAdd", unfollowed := true, recurses := true, plainKeys := false, apart := false }
def FnExactQueueAddSaid : Prop := fnExactQueueAddRow.holds Try.pinned (OpenSpec.ofChange fnExactQueueAddSpec)

/-- ITS FALSE NEIGHBOUR: 'it returns false'. Refute it at one input. -/
def fnExactQueueAddWrong : ChangeSpec := { name := "fnExactQueueAdd", fn := fun _ => fun
  | [d1, d2] => { results := [.lit (.bool false)], args := [d1, d2] }
  | _ => none }
def FnExactQueueAddWrongFalsely : Prop := fnExactQueueAddRow.holds Try.pinned (OpenSpec.ofChange fnExactQueueAddWrong)

/-- 'laws.FnExactQueueNext': WHATEVER THE INPUT: true; the input reads as it did. -/
def fnExactQueueNextSpec : ChangeSpec := { name := "fnExactQueueNext", fn := fun _ => fun
  | [d] => { results := [.lit (.bool true)], args := [d] }
  | _ => none }
def fnExactQueueNextRow : OpenClaim := { program := "ytgnemgnhjallhaa", sum := "d62071ade57b57f6fd7f60799787da841816720f894ca427689f0c0e8b603ad5", func := "loop.example/wapentake/laws.FnExactQueueNext", spec := "fnExactQueueNext", unfollowed := true, recurses := true, plainKeys := false, apart := false }
def FnExactQueueNextSaid : Prop := fnExactQueueNextRow.holds Try.pinned (OpenSpec.ofChange fnExactQueueNextSpec)

/-- ITS FALSE NEIGHBOUR: 'it returns false'. Refute it at one input. -/
def fnExactQueueNextWrong : ChangeSpec := { name := "fnExactQueueNext", fn := fun _ => fun
  | [d] => { results := [.lit (.bool false)], args := [d] }
  | _ => none }
def FnExactQueueNextWrongFalsely : Prop := fnExactQueueNextRow.holds Try.pinned (OpenSpec.ofChange fnExactQueueNextWrong)

/-- 'laws.FnExactQueueTill': WHATEVER THE INPUT: true; the input reads as it did. -/
def fnExactQueueTillSpec : ChangeSpec := { name := "fnExactQueueTill", fn := fun _ => fun
  | [d1, d2] => { results := [.lit (.bool true)], args := [d1, d2] }
  | _ => none }
def fnExactQueueTillRow : OpenClaim := { program := "ytgnemgnhjallhaa", sum := "d62071ade57b57f6fd7f60799787da841816720f894ca427689f0c0e8b603ad5", func := "loop.example/wapentake/laws.FnExactQueueTill", spec := "fnExactQueueTill", unfollowed := true, recurses := true, plainKeys := false, apart := false }
def FnExactQueueTillSaid : Prop := fnExactQueueTillRow.holds Try.pinned (OpenSpec.ofChange fnExactQueueTillSpec)

/-- ITS FALSE NEIGHBOUR: 'it returns false'. Refute it at one input. -/
def fnExactQueueTillWrong : ChangeSpec := { name := "fnExactQueueTill", fn := fun _ => fun
  | [d1, d2] => { results := [.lit (.bool false)], args := [d1, d2] }
  | _ => none }
def FnExactQueueTillWrongFalsely : Prop := fnExactQueueTillRow.holds Try.pinned (OpenSpec.ofChange fnExactQueueTillWrong)

/-- 'laws.FnExactQueueSort': WHATEVER THE INPUT: true; the input reads as it did. -/
def fnExactQueueSortSpec : ChangeSpec := { name := "fnExactQueueSort", fn := fun _ => fun
  | [d] => { results := [.lit (.bool true)], args := [d] }
  | _ => none }
def fnExactQueueSortRow : OpenClaim := { program := "ytgnemgnhjallhaa", sum := "d62071ade57b57f6fd7f60799787da841816720f894ca427689f0c0e8b603ad5", func := "loop.example/wapentake/laws.FnExactQueueSort", spec := "fnExactQueueSort", unfollowed := true, recurses := true, plainKeys := false, apart := false }
def FnExactQueueSortSaid : Prop := fnExactQueueSortRow.holds Try.pinned (OpenSpec.ofChange fnExactQueueSortSpec)

/-- ITS FALSE NEIGHBOUR: 'it returns false'. Refute it at one input. -/
def fnExactQueueSortWrong : ChangeSpec := { name := "fnExactQueueSort", fn := fun _ => fun
  | [d] => { results := [.lit (.bool false)], args := [d] }
  | _ => none }
def FnExactQueueSortWrongFalsely : Prop := fnExactQueueSortRow.holds Try.pinned (OpenSpec.ofChange fnExactQueueSortWrong)

/- THE SECOND FORM. 'bulk': how many values and letters a reading holds, each counted each time it is reached (what is shared counts as often as it is met; a slice's spare places count too). A statement '..UptoSaid' is the law's where the arguments, and the package variables that the reading takes, are together of bulk at most 1048576: NARROWER than '..Said'. Prove '..Said' where nothing that the law and all that it calls make is longer than what came in: it says more and counts as full. Else prove '..UptoSaid'. A law counts once. -/
mutual
def uptoBulk {H : Type} : DataW H → Nat
  | .lit (.string bytes) => bytes.length + 1
  | .lit _ => 1
  | .nil => 1
  | .ptr d => uptoBulk d + 1
  | .slice elems spare => uptoBulkAll elems + uptoBulkAll spare + 1
  | .agg parts => uptoBulkAll parts + 1
  | .iface _ d => uptoBulk d + 1
  | .map entries => uptoBulkEntries entries + 1
  | .held _ => 1
def uptoBulkAll {H : Type} : List (DataW H) → Nat
  | [] => 0
  | d :: r => uptoBulk d + uptoBulkAll r
def uptoBulkEntries {H : Type} : List (Lit × DataW H) → Nat
  | [] => 0
  | x :: r => uptoBulkEntry x + uptoBulkEntries r
def uptoBulkEntry {H : Type} : Lit × DataW H → Nat
  | (.string bytes, d) => bytes.length + uptoBulk d + 1
  | (_, d) => uptoBulk d + 1
 end
def uptoSmall : (H : Type) → List (DataW H) → Bool := fun _ ds => decide (uptoBulkAll ds ≤ 1048576)
def OpenSpec.upto (s : _root_.Go.ChangeSpec) : _root_.Go.OpenSpec := { _root_.Go.OpenSpec.ofChange s with cond := some uptoSmall }

/-- 'laws.FnQueueAdd', WHERE WHAT IT READS IS OF BULK AT MOST 1048576: true; the input reads as it did. -/
def fnQueueAddUptoRow : OpenClaim := { program := "ytgnemgnhjallhaa", sum := "d62071ade57b57f6fd7f60799787da841816720f894ca427689f0c0e8b603ad5", func := "loop.example/wapentake/laws.FnQueueAdd", spec := "fnQueueAdd", unfollowed := true, recurses := true, plainKeys := false, apart := false, narrowed := true }
def FnQueueAddUptoSaid : Prop := fnQueueAddUptoRow.holds Try.pinned (OpenSpec.upto fnQueueAddSpec)

/-- 'laws.FnQueueNext', WHERE WHAT IT READS IS OF BULK AT MOST 1048576: true; the input reads as it did. -/
def fnQueueNextUptoRow : OpenClaim := { program := "ytgnemgnhjallhaa", sum := "d62071ade57b57f6fd7f60799787da841816720f894ca427689f0c0e8b603ad5", func := "loop.example/wapentake/laws.FnQueueNext", spec := "fnQueueNext", unfollowed := true, recurses := true, plainKeys := false, apart := false, narrowed := true }
def FnQueueNextUptoSaid : Prop := fnQueueNextUptoRow.holds Try.pinned (OpenSpec.upto fnQueueNextSpec)

/-- 'laws.FnQueueTill', WHERE WHAT IT READS IS OF BULK AT MOST 1048576: true; the input reads as it did. -/
def fnQueueTillUptoRow : OpenClaim := { program := "ytgnemgnhjallhaa", sum := "d62071ade57b57f6fd7f60799787da841816720f894ca427689f0c0e8b603ad5", func := "loop.example/wapentake/laws.FnQueueTill", spec := "fnQueueTill", unfollowed := true, recurses := true, plainKeys := false, apart := false, narrowed := true }
def FnQueueTillUptoSaid : Prop := fnQueueTillUptoRow.holds Try.pinned (OpenSpec.upto fnQueueTillSpec)

/-- 'laws.FnQueueSort', WHERE WHAT IT READS IS OF BULK AT MOST 1048576: true; the input reads as it did. -/
def fnQueueSortUptoRow : OpenClaim := { program := "ytgnemgnhjallhaa", sum := "d62071ade57b57f6fd7f60799787da841816720f894ca427689f0c0e8b603ad5", func := "loop.example/wapentake/laws.FnQueueSort", spec := "fnQueueSort", unfollowed := true, recurses := true, plainKeys := false, apart := false, narrowed := true }
def FnQueueSortUptoSaid : Prop := fnQueueSortUptoRow.holds Try.pinned (OpenSpec.upto fnQueueSortSpec)

/-- 'laws.FnExactQueueOk', WHERE WHAT IT READS IS OF BULK AT MOST 1048576: true; the input reads as it did. -/
def fnExactQueueOkUptoRow : OpenClaim := { program := "ytgnemgnhjallhaa", sum := "d62071ade57b57f6fd7f60799787da841816720f894ca427689f0c0e8b603ad5", func := "loop.example/wapentake/laws.FnExactQueueOk", spec := "fnExactQueueOk", unfollowed := true, recurses := true, plainKeys := false, apart := false, narrowed := true }
def FnExactQueueOkUptoSaid : Prop := fnExactQueueOkUptoRow.holds Try.pinned (OpenSpec.upto fnExactQueueOkSpec)

/-- 'laws.FnExactQueueAdd', WHERE WHAT IT READS IS OF BULK AT MOST 1048576: true; the input reads as it did. -/
def fnExactQueueAddUptoRow : OpenClaim := { program := "ytgnemgnhjallhaa", sum := "d62071ade57b57f6fd7f60799787da841816720f894ca427689f0c0e8b603ad5", func := "loop.example/wapentake/laws.FnExactQueueAdd", spec := "fnExactQueueAdd", unfollowed := true, recurses := true, plainKeys := false, apart := false, narrowed := true }
def FnExactQueueAddUptoSaid : Prop := fnExactQueueAddUptoRow.holds Try.pinned (OpenSpec.upto fnExactQueueAddSpec)

/-- 'laws.FnExactQueueNext', WHERE WHAT IT READS IS OF BULK AT MOST 1048576: true; the input reads as it did. -/
def fnExactQueueNextUptoRow : OpenClaim := { program := "ytgnemgnhjallhaa", sum := "d62071ade57b57f6fd7f60799787da841816720f894ca427689f0c0e8b603ad5", func := "loop.example/wapentake/laws.FnExactQueueNext", spec := "fnExactQueueNext", unfollowed := true, recurses := true, plainKeys := false, apart := false, narrowed := true }
def FnExactQueueNextUptoSaid : Prop := fnExactQueueNextUptoRow.holds Try.pinned (OpenSpec.upto fnExactQueueNextSpec)

/-- 'laws.FnExactQueueTill', WHERE WHAT IT READS IS OF BULK AT MOST 1048576: true; the input reads as it did. -/
def fnExactQueueTillUptoRow : OpenClaim := { program := "ytgnemgnhjallhaa", sum := "d62071ade57b57f6fd7f60799787da841816720f894ca427689f0c0e8b603ad5", func := "loop.example/wapentake/laws.FnExactQueueTill", spec := "fnExactQueueTill", unfollowed := true, recurses := true, plainKeys := false, apart := false, narrowed := true }
def FnExactQueueTillUptoSaid : Prop := fnExactQueueTillUptoRow.holds Try.pinned (OpenSpec.upto fnExactQueueTillSpec)

/-- 'laws.FnExactQueueSort', WHERE WHAT IT READS IS OF BULK AT MOST 1048576: true; the input reads as it did. -/
def fnExactQueueSortUptoRow : OpenClaim := { program := "ytgnemgnhjallhaa", sum := "d62071ade57b57f6fd7f60799787da841816720f894ca427689f0c0e8b603ad5", func := "loop.example/wapentake/laws.FnExactQueueSort", spec := "fnExactQueueSort", unfollowed := true, recurses := true, plainKeys := false, apart := false, narrowed := true }
def FnExactQueueSortUptoSaid : Prop := fnExactQueueSortUptoRow.holds Try.pinned (OpenSpec.upto fnExactQueueSortSpec)

end Rows
end Go.Proofs.Ytgnemgnhjallhaa
