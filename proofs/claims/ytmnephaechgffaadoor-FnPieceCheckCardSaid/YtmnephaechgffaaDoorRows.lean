/-
  NARROWER THAN 'FOR EVERY INPUT', by the rows' own cells (each row's printed sentence says how): FnExactPieceCheck: laid · FnPieceCheck: laid · FnExactPieceRoot: laid · FnPieceRoot: laid · FnExactPieceProof: laid · FnPieceProof: laid · FnExactPieceTake: laid · FnPieceTake: laid.
  DERIVED. THE GIVEN ROWS OF THIS SEAT. 8 by the template 'for every input the law returns true; each argument reads behind the call as it read before'; 0 by the template 'total and deterministic' (their statements: YtmnephaechgffaaDoorTotals.lean).
  GIVEN WITH THE SEED: the statements are not yours to turn. If you find one false, say at which input.
  Laid BY PROGRAM, IN A SANDBOX (cutbox-rows.mjs): the forced cells as the released guide's own fill.sh prints them over the translation 11950242189cb3bb… (all of the seat's roots in one cut). By AI agents, Wed Nov 11 2026. No macro, syntax, notation, axiom, sorry.
-/
import Derived.Test.YtmnephaechgffaaDoorChecked
import GoSem.Claim
import GoSem.ClaimJoined
import GoSem.ClaimMapViews
import Derived.JoinedTies
import Derived.KernelRfl
namespace Go.Proofs.YtmnephaechgffaaDoor
/- THE CELL 'sum', in the pinned program and in every row, IS THE sha256 OF THE DUMP (.gsa) THAT YtmnephaechgffaaDoorProg.lean LOADS. Nothing in Lean hashes anything: it is a label: what it is worth is what the hold of that sum in a sandbox is worth. -/
noncomputable def Tryd.pinned : Pinned := { name := "ytmnephaechgffaadoor", sum := "11950242189cb3bb44356c167f7c50461bb87ae934c9dde8ce5146f3bc625d21", checked := Tryd.checked }
namespace Rows
def none {H : Type} : Left H := { results := [], args := [] }

/- WHAT THE LISTED PACKAGE-LEVEL VARIABLES READ AS WHEN THE CALL BEGINS. Each datum BY PROGRAM (the guide's laid-datum.mjs) off the statement by which the dump's own 'gosem.cut.vars' lays the variable. In a bare row this is a premise. The card (YtmnephaechgffaaDoorCards.lean) ties it to the program's text. -/
def laid_math_bits_deBruijn32tab {H : Type} : DataW H := .agg [.lit (.int .u8 0), .lit (.int .u8 1), .lit (.int .u8 28), .lit (.int .u8 2), .lit (.int .u8 29), .lit (.int .u8 14), .lit (.int .u8 24), .lit (.int .u8 3), .lit (.int .u8 30), .lit (.int .u8 22), .lit (.int .u8 20), .lit (.int .u8 15), .lit (.int .u8 25), .lit (.int .u8 17), .lit (.int .u8 4), .lit (.int .u8 8), .lit (.int .u8 31), .lit (.int .u8 27), .lit (.int .u8 13), .lit (.int .u8 23), .lit (.int .u8 21), .lit (.int .u8 19), .lit (.int .u8 16), .lit (.int .u8 7), .lit (.int .u8 26), .lit (.int .u8 12), .lit (.int .u8 18), .lit (.int .u8 6), .lit (.int .u8 11), .lit (.int .u8 5), .lit (.int .u8 10), .lit (.int .u8 9)]
def laid_math_bits_deBruijn64tab {H : Type} : DataW H := .agg [.lit (.int .u8 0), .lit (.int .u8 1), .lit (.int .u8 56), .lit (.int .u8 2), .lit (.int .u8 57), .lit (.int .u8 49), .lit (.int .u8 28), .lit (.int .u8 3), .lit (.int .u8 61), .lit (.int .u8 58), .lit (.int .u8 42), .lit (.int .u8 50), .lit (.int .u8 38), .lit (.int .u8 29), .lit (.int .u8 17), .lit (.int .u8 4), .lit (.int .u8 62), .lit (.int .u8 47), .lit (.int .u8 59), .lit (.int .u8 36), .lit (.int .u8 45), .lit (.int .u8 43), .lit (.int .u8 51), .lit (.int .u8 22), .lit (.int .u8 53), .lit (.int .u8 39), .lit (.int .u8 33), .lit (.int .u8 30), .lit (.int .u8 24), .lit (.int .u8 18), .lit (.int .u8 12), .lit (.int .u8 5), .lit (.int .u8 63), .lit (.int .u8 55), .lit (.int .u8 48), .lit (.int .u8 27), .lit (.int .u8 60), .lit (.int .u8 41), .lit (.int .u8 37), .lit (.int .u8 16), .lit (.int .u8 46), .lit (.int .u8 35), .lit (.int .u8 44), .lit (.int .u8 21), .lit (.int .u8 52), .lit (.int .u8 32), .lit (.int .u8 23), .lit (.int .u8 11), .lit (.int .u8 54), .lit (.int .u8 26), .lit (.int .u8 40), .lit (.int .u8 15), .lit (.int .u8 34), .lit (.int .u8 20), .lit (.int .u8 31), .lit (.int .u8 10), .lit (.int .u8 25), .lit (.int .u8 14), .lit (.int .u8 19), .lit (.int .u8 9), .lit (.int .u8 13), .lit (.int .u8 8), .lit (.int .u8 7), .lit (.int .u8 6)]
def laid_internal_strconv_uint64pow10 {H : Type} : DataW H := .agg [.lit (.int .u64 1), .lit (.int .u64 10), .lit (.int .u64 100), .lit (.int .u64 1000), .lit (.int .u64 10000), .lit (.int .u64 100000), .lit (.int .u64 1000000), .lit (.int .u64 10000000), .lit (.int .u64 100000000), .lit (.int .u64 1000000000), .lit (.int .u64 10000000000), .lit (.int .u64 100000000000), .lit (.int .u64 1000000000000), .lit (.int .u64 10000000000000), .lit (.int .u64 100000000000000), .lit (.int .u64 1000000000000000), .lit (.int .u64 10000000000000000), .lit (.int .u64 100000000000000000), .lit (.int .u64 1000000000000000000), .lit (.int .u64 10000000000000000000)]

/-- 'laws.FnExactPieceCheck': WHATEVER THE INPUT: true; the input reads as it did. -/
def fnExactPieceCheckSpec : ChangeSpec := { name := "fnExactPieceCheck", fn := fun _ => fun
  | [d1, d2, d3, d4, d5] => { results := [.lit (.bool true)], args := [d1, d2, d3, d4, d5] }
  | _ => none }
def fnExactPieceCheckRow : OpenClaim := { program := "ytmnephaechgffaadoor", sum := "11950242189cb3bb44356c167f7c50461bb87ae934c9dde8ce5146f3bc625d21", func := "loop.example/wapentake/laws.FnExactPieceCheck", spec := "fnExactPieceCheck", recurses := true, named := ["internal/strconv.uint64pow10", "math/bits.deBruijn32tab", "math/bits.deBruijn64tab"], apart := false, laid := [("math/bits.deBruijn32tab", laid_math_bits_deBruijn32tab), ("math/bits.deBruijn64tab", laid_math_bits_deBruijn64tab), ("internal/strconv.uint64pow10", laid_internal_strconv_uint64pow10)] }
def FnExactPieceCheckSaid : Prop := fnExactPieceCheckRow.holds Tryd.pinned (OpenSpec.ofChange fnExactPieceCheckSpec)

/-- ITS FALSE NEIGHBOUR: 'it returns false'. Refute it at one input. -/
def fnExactPieceCheckWrong : ChangeSpec := { name := "fnExactPieceCheck", fn := fun _ => fun
  | [d1, d2, d3, d4, d5] => { results := [.lit (.bool false)], args := [d1, d2, d3, d4, d5] }
  | _ => none }
def FnExactPieceCheckWrongFalsely : Prop := fnExactPieceCheckRow.holds Tryd.pinned (OpenSpec.ofChange fnExactPieceCheckWrong)

/-- 'laws.FnPieceCheck': WHATEVER THE INPUT: true; the input reads as it did. -/
def fnPieceCheckSpec : ChangeSpec := { name := "fnPieceCheck", fn := fun _ => fun
  | [d] => { results := [.lit (.bool true)], args := [d] }
  | _ => none }
def fnPieceCheckRow : OpenClaim := { program := "ytmnephaechgffaadoor", sum := "11950242189cb3bb44356c167f7c50461bb87ae934c9dde8ce5146f3bc625d21", func := "loop.example/wapentake/laws.FnPieceCheck", spec := "fnPieceCheck", recurses := true, named := ["internal/strconv.uint64pow10", "math/bits.deBruijn32tab", "math/bits.deBruijn64tab"], apart := false, laid := [("math/bits.deBruijn32tab", laid_math_bits_deBruijn32tab), ("math/bits.deBruijn64tab", laid_math_bits_deBruijn64tab), ("internal/strconv.uint64pow10", laid_internal_strconv_uint64pow10)] }
def FnPieceCheckSaid : Prop := fnPieceCheckRow.holds Tryd.pinned (OpenSpec.ofChange fnPieceCheckSpec)

/-- ITS FALSE NEIGHBOUR: 'it returns false'. Refute it at one input. -/
def fnPieceCheckWrong : ChangeSpec := { name := "fnPieceCheck", fn := fun _ => fun
  | [d] => { results := [.lit (.bool false)], args := [d] }
  | _ => none }
def FnPieceCheckWrongFalsely : Prop := fnPieceCheckRow.holds Tryd.pinned (OpenSpec.ofChange fnPieceCheckWrong)

/-- 'laws.FnExactPieceRoot': WHATEVER THE INPUT: true; the input reads as it did. -/
def fnExactPieceRootSpec : ChangeSpec := { name := "fnExactPieceRoot", fn := fun _ => fun
  | [d] => { results := [.lit (.bool true)], args := [d] }
  | _ => none }
def fnExactPieceRootRow : OpenClaim := { program := "ytmnephaechgffaadoor", sum := "11950242189cb3bb44356c167f7c50461bb87ae934c9dde8ce5146f3bc625d21", func := "loop.example/wapentake/laws.FnExactPieceRoot", spec := "fnExactPieceRoot", unfollowed := true, recurses := true, named := ["internal/strconv.uint64pow10", "math/bits.deBruijn32tab", "math/bits.deBruijn64tab"], apart := false, laid := [("math/bits.deBruijn32tab", laid_math_bits_deBruijn32tab), ("math/bits.deBruijn64tab", laid_math_bits_deBruijn64tab), ("internal/strconv.uint64pow10", laid_internal_strconv_uint64pow10)] }
def FnExactPieceRootSaid : Prop := fnExactPieceRootRow.holds Tryd.pinned (OpenSpec.ofChange fnExactPieceRootSpec)

/-- ITS FALSE NEIGHBOUR: 'it returns false'. Refute it at one input. -/
def fnExactPieceRootWrong : ChangeSpec := { name := "fnExactPieceRoot", fn := fun _ => fun
  | [d] => { results := [.lit (.bool false)], args := [d] }
  | _ => none }
def FnExactPieceRootWrongFalsely : Prop := fnExactPieceRootRow.holds Tryd.pinned (OpenSpec.ofChange fnExactPieceRootWrong)

/-- 'laws.FnPieceRoot': WHATEVER THE INPUT: true; the input reads as it did. -/
def fnPieceRootSpec : ChangeSpec := { name := "fnPieceRoot", fn := fun _ => fun
  | [d1, d2] => { results := [.lit (.bool true)], args := [d1, d2] }
  | _ => none }
def fnPieceRootRow : OpenClaim := { program := "ytmnephaechgffaadoor", sum := "11950242189cb3bb44356c167f7c50461bb87ae934c9dde8ce5146f3bc625d21", func := "loop.example/wapentake/laws.FnPieceRoot", spec := "fnPieceRoot", unfollowed := true, recurses := true, named := ["internal/strconv.uint64pow10", "math/bits.deBruijn32tab", "math/bits.deBruijn64tab"], apart := false, laid := [("math/bits.deBruijn32tab", laid_math_bits_deBruijn32tab), ("math/bits.deBruijn64tab", laid_math_bits_deBruijn64tab), ("internal/strconv.uint64pow10", laid_internal_strconv_uint64pow10)] }
def FnPieceRootSaid : Prop := fnPieceRootRow.holds Tryd.pinned (OpenSpec.ofChange fnPieceRootSpec)

/-- ITS FALSE NEIGHBOUR: 'it returns false'. Refute it at one input. -/
def fnPieceRootWrong : ChangeSpec := { name := "fnPieceRoot", fn := fun _ => fun
  | [d1, d2] => { results := [.lit (.bool false)], args := [d1, d2] }
  | _ => none }
def FnPieceRootWrongFalsely : Prop := fnPieceRootRow.holds Tryd.pinned (OpenSpec.ofChange fnPieceRootWrong)

/-- 'laws.FnExactPieceProof': WHATEVER THE INPUT: true; the input reads as it did. -/
def fnExactPieceProofSpec : ChangeSpec := { name := "fnExactPieceProof", fn := fun _ => fun
  | [d1, d2] => { results := [.lit (.bool true)], args := [d1, d2] }
  | _ => none }
def fnExactPieceProofRow : OpenClaim := { program := "ytmnephaechgffaadoor", sum := "11950242189cb3bb44356c167f7c50461bb87ae934c9dde8ce5146f3bc625d21", func := "loop.example/wapentake/laws.FnExactPieceProof", spec := "fnExactPieceProof", unfollowed := true, recurses := true, named := ["internal/strconv.uint64pow10", "math/bits.deBruijn32tab", "math/bits.deBruijn64tab"], apart := false, laid := [("math/bits.deBruijn32tab", laid_math_bits_deBruijn32tab), ("math/bits.deBruijn64tab", laid_math_bits_deBruijn64tab), ("internal/strconv.uint64pow10", laid_internal_strconv_uint64pow10)] }
def FnExactPieceProofSaid : Prop := fnExactPieceProofRow.holds Tryd.pinned (OpenSpec.ofChange fnExactPieceProofSpec)

/-- ITS FALSE NEIGHBOUR: 'it returns false'. Refute it at one input. -/
def fnExactPieceProofWrong : ChangeSpec := { name := "fnExactPieceProof", fn := fun _ => fun
  | [d1, d2] => { results := [.lit (.bool false)], args := [d1, d2] }
  | _ => none }
def FnExactPieceProofWrongFalsely : Prop := fnExactPieceProofRow.holds Tryd.pinned (OpenSpec.ofChange fnExactPieceProofWrong)

/-- 'laws.FnPieceProof': WHATEVER THE INPUT: true; the input reads as it did. -/
def fnPieceProofSpec : ChangeSpec := { name := "fnPieceProof", fn := fun _ => fun
  | [d] => { results := [.lit (.bool true)], args := [d] }
  | _ => none }
def fnPieceProofRow : OpenClaim := { program := "ytmnephaechgffaadoor", sum := "11950242189cb3bb44356c167f7c50461bb87ae934c9dde8ce5146f3bc625d21", func := "loop.example/wapentake/laws.FnPieceProof", spec := "fnPieceProof", unfollowed := true, recurses := true, named := ["internal/strconv.uint64pow10", "math/bits.deBruijn32tab", "math/bits.deBruijn64tab"], apart := false, laid := [("math/bits.deBruijn32tab", laid_math_bits_deBruijn32tab), ("math/bits.deBruijn64tab", laid_math_bits_deBruijn64tab), ("internal/strconv.uint64pow10", laid_internal_strconv_uint64pow10)] }
def FnPieceProofSaid : Prop := fnPieceProofRow.holds Tryd.pinned (OpenSpec.ofChange fnPieceProofSpec)

/-- ITS FALSE NEIGHBOUR: 'it returns false'. Refute it at one input. -/
def fnPieceProofWrong : ChangeSpec := { name := "fnPieceProof", fn := fun _ => fun
  | [d] => { results := [.lit (.bool false)], args := [d] }
  | _ => none }
def FnPieceProofWrongFalsely : Prop := fnPieceProofRow.holds Tryd.pinned (OpenSpec.ofChange fnPieceProofWrong)

/-- 'laws.FnExactPieceTake': WHATEVER THE INPUT: true; the input reads as it did. -/
def fnExactPieceTakeSpec : ChangeSpec := { name := "fnExactPieceTake", fn := fun _ => fun
  | [d1, d2, d3] => { results := [.lit (.bool true)], args := [d1, d2, d3] }
  | _ => none }
def fnExactPieceTakeRow : OpenClaim := { program := "ytmnephaechgffaadoor", sum := "11950242189cb3bb44356c167f7c50461bb87ae934c9dde8ce5146f3bc625d21", func := "loop.example/wapentake/laws.FnExactPieceTake", spec := "fnExactPieceTake", inPlace := ["internal/abi.NoEscape", "internal/bytealg.MakeNoZero"], recurses := true, named := ["internal/strconv.uint64pow10", "math/bits.deBruijn32tab", "math/bits.deBruijn64tab"], apart := false, laid := [("math/bits.deBruijn32tab", laid_math_bits_deBruijn32tab), ("math/bits.deBruijn64tab", laid_math_bits_deBruijn64tab), ("internal/strconv.uint64pow10", laid_internal_strconv_uint64pow10)] }
def FnExactPieceTakeSaid : Prop := fnExactPieceTakeRow.holds Tryd.pinned (OpenSpec.ofChange fnExactPieceTakeSpec)

/-- ITS FALSE NEIGHBOUR: 'it returns false'. Refute it at one input. -/
def fnExactPieceTakeWrong : ChangeSpec := { name := "fnExactPieceTake", fn := fun _ => fun
  | [d1, d2, d3] => { results := [.lit (.bool false)], args := [d1, d2, d3] }
  | _ => none }
def FnExactPieceTakeWrongFalsely : Prop := fnExactPieceTakeRow.holds Tryd.pinned (OpenSpec.ofChange fnExactPieceTakeWrong)

/-- 'laws.FnPieceTake': WHATEVER THE INPUT: true; the input reads as it did. -/
def fnPieceTakeSpec : ChangeSpec := { name := "fnPieceTake", fn := fun _ => fun
  | [d] => { results := [.lit (.bool true)], args := [d] }
  | _ => none }
def fnPieceTakeRow : OpenClaim := { program := "ytmnephaechgffaadoor", sum := "11950242189cb3bb44356c167f7c50461bb87ae934c9dde8ce5146f3bc625d21", func := "loop.example/wapentake/laws.FnPieceTake", spec := "fnPieceTake", inPlace := ["internal/abi.NoEscape", "internal/bytealg.MakeNoZero"], recurses := true, named := ["internal/strconv.uint64pow10", "math/bits.deBruijn32tab", "math/bits.deBruijn64tab"], apart := false, laid := [("math/bits.deBruijn32tab", laid_math_bits_deBruijn32tab), ("math/bits.deBruijn64tab", laid_math_bits_deBruijn64tab), ("internal/strconv.uint64pow10", laid_internal_strconv_uint64pow10)] }
def FnPieceTakeSaid : Prop := fnPieceTakeRow.holds Tryd.pinned (OpenSpec.ofChange fnPieceTakeSpec)

/-- ITS FALSE NEIGHBOUR: 'it returns false'. Refute it at one input. -/
def fnPieceTakeWrong : ChangeSpec := { name := "fnPieceTake", fn := fun _ => fun
  | [d] => { results := [.lit (.bool false)], args := [d] }
  | _ => none }
def FnPieceTakeWrongFalsely : Prop := fnPieceTakeRow.holds Tryd.pinned (OpenSpec.ofChange fnPieceTakeWrong)

/- THE SECOND FORM. 'bulk': how many values and letters a reading holds, each counted each time it is reached (what is shared counts as often as it is met; a slice's spare places count too). A statement '..UptoSaid' is the law's where the arguments, and the package variables that the reading takes, are together of bulk at most 1048576: NARROWER than '..Said'. Prove '..Said' where nothing that the law and all that it calls make is longer than what came in: it says more and counts as full. Else prove '..UptoSaid'. A law counts once. -/
mutual
def uptoBulk {H : Type} : DataW H → Nat
  | .lit (.string bytes) => bytes.length + 1
  | .lit _ => 1
  | .nil => 1
  | .ptr d => uptoBulk d + 1
  | .slice elems spare => uptoBulkAll elems + uptoBulkAll spare + 1
  | .agg parts => uptoBulkAll parts + 1
  | .iface _ d => uptoBulk d + 1
  | .map entries => uptoBulkEntries entries + 1
  | .held _ => 1
def uptoBulkAll {H : Type} : List (DataW H) → Nat
  | [] => 0
  | d :: r => uptoBulk d + uptoBulkAll r
def uptoBulkEntries {H : Type} : List (Lit × DataW H) → Nat
  | [] => 0
  | x :: r => uptoBulkEntry x + uptoBulkEntries r
def uptoBulkEntry {H : Type} : Lit × DataW H → Nat
  | (.string bytes, d) => bytes.length + uptoBulk d + 1
  | (_, d) => uptoBulk d + 1
 end
def uptoSmall : (H : Type) → List (DataW H) → Bool := fun _ ds => decide (uptoBulkAll ds ≤ 1048576)
def OpenSpec.upto (s : _root_.Go.ChangeSpec) : _root_.Go.OpenSpec := { _root_.Go.OpenSpec.ofChange s with cond := some uptoSmall }

/-- 'laws.FnExactPieceCheck', WHERE WHAT IT READS IS OF BULK AT MOST 1048576: true; the input reads as it did. -/
def fnExactPieceCheckUptoRow : OpenClaim := { program := "ytmnephaechgffaadoor", sum := "11950242189cb3bb44356c167f7c50461bb87ae934c9dde8ce5146f3bc625d21", func := "loop.example/wapentake/laws.FnExactPieceCheck", spec := "fnExactPieceCheck", recurses := true, named := ["internal/strconv.uint64pow10", "math/bits.deBruijn32tab", "math/bits.deBruijn64tab"], apart := false, laid := [("math/bits.deBruijn32tab", laid_math_bits_deBruijn32tab), ("math/bits.deBruijn64tab", laid_math_bits_deBruijn64tab), ("internal/strconv.uint64pow10", laid_internal_strconv_uint64pow10)], narrowed := true }
def FnExactPieceCheckUptoSaid : Prop := fnExactPieceCheckUptoRow.holds Tryd.pinned (OpenSpec.upto fnExactPieceCheckSpec)

/-- 'laws.FnPieceCheck', WHERE WHAT IT READS IS OF BULK AT MOST 1048576: true; the input reads as it did. -/
def fnPieceCheckUptoRow : OpenClaim := { program := "ytmnephaechgffaadoor", sum := "11950242189cb3bb44356c167f7c50461bb87ae934c9dde8ce5146f3bc625d21", func := "loop.example/wapentake/laws.FnPieceCheck", spec := "fnPieceCheck", recurses := true, named := ["internal/strconv.uint64pow10", "math/bits.deBruijn32tab", "math/bits.deBruijn64tab"], apart := false, laid := [("math/bits.deBruijn32tab", laid_math_bits_deBruijn32tab), ("math/bits.deBruijn64tab", laid_math_bits_deBruijn64tab), ("internal/strconv.uint64pow10", laid_internal_strconv_uint64pow10)], narrowed := true }
def FnPieceCheckUptoSaid : Prop := fnPieceCheckUptoRow.holds Tryd.pinned (OpenSpec.upto fnPieceCheckSpec)

/-- 'laws.FnExactPieceRoot', WHERE WHAT IT READS IS OF BULK AT MOST 1048576: true; the input reads as it did. -/
def fnExactPieceRootUptoRow : OpenClaim := { program := "ytmnephaechgffaadoor", sum := "11950242189cb3bb44356c167f7c50461bb87ae934c9dde8ce5146f3bc625d21", func := "loop.example/wapentake/laws.FnExactPieceRoot", spec := "fnExactPieceRoot", unfollowed := true, recurses := true, named := ["internal/strconv.uint64pow10", "math/bits.deBruijn32tab", "math/bits.deBruijn64tab"], apart := false, laid := [("math/bits.deBruijn32tab", laid_math_bits_deBruijn32tab), ("math/bits.deBruijn64tab", laid_math_bits_deBruijn64tab), ("internal/strconv.uint64pow10", laid_internal_strconv_uint64pow10)], narrowed := true }
def FnExactPieceRootUptoSaid : Prop := fnExactPieceRootUptoRow.holds Tryd.pinned (OpenSpec.upto fnExactPieceRootSpec)

/-- 'laws.FnPieceRoot', WHERE WHAT IT READS IS OF BULK AT MOST 1048576: true; the input reads as it did. -/
def fnPieceRootUptoRow : OpenClaim := { program := "ytmnephaechgffaadoor", sum := "11950242189cb3bb44356c167f7c50461bb87ae934c9dde8ce5146f3bc625d21", func := "loop.example/wapentake/laws.FnPieceRoot", spec := "fnPieceRoot", unfollowed := true, recurses := true, named := ["internal/strconv.uint64pow10", "math/bits.deBruijn32tab", "math/bits.deBruijn64tab"], apart := false, laid := [("math/bits.deBruijn32tab", laid_math_bits_deBruijn32tab), ("math/bits.deBruijn64tab", laid_math_bits_deBruijn64tab), ("internal/strconv.uint64pow10", laid_internal_strconv_uint64pow10)], narrowed := true }
def FnPieceRootUptoSaid : Prop := fnPieceRootUptoRow.holds Tryd.pinned (OpenSpec.upto fnPieceRootSpec)

/-- 'laws.FnExactPieceProof', WHERE WHAT IT READS IS OF BULK AT MOST 1048576: true; the input reads as it did. -/
def fnExactPieceProofUptoRow : OpenClaim := { program := "ytmnephaechgffaadoor", sum := "11950242189cb3bb44356c167f7c50461bb87ae934c9dde8ce5146f3bc625d21", func := "loop.example/wapentake/laws.FnExactPieceProof", spec := "fnExactPieceProof", unfollowed := true, recurses := true, named := ["internal/strconv.uint64pow10", "math/bits.deBruijn32tab", "math/bits.deBruijn64tab"], apart := false, laid := [("math/bits.deBruijn32tab", laid_math_bits_deBruijn32tab), ("math/bits.deBruijn64tab", laid_math_bits_deBruijn64tab), ("internal/strconv.uint64pow10", laid_internal_strconv_uint64pow10)], narrowed := true }
def FnExactPieceProofUptoSaid : Prop := fnExactPieceProofUptoRow.holds Tryd.pinned (OpenSpec.upto fnExactPieceProofSpec)

/-- 'laws.FnPieceProof', WHERE WHAT IT READS IS OF BULK AT MOST 1048576: true; the input reads as it did. -/
def fnPieceProofUptoRow : OpenClaim := { program := "ytmnephaechgffaadoor", sum := "11950242189cb3bb44356c167f7c50461bb87ae934c9dde8ce5146f3bc625d21", func := "loop.example/wapentake/laws.FnPieceProof", spec := "fnPieceProof", unfollowed := true, recurses := true, named := ["internal/strconv.uint64pow10", "math/bits.deBruijn32tab", "math/bits.deBruijn64tab"], apart := false, laid := [("math/bits.deBruijn32tab", laid_math_bits_deBruijn32tab), ("math/bits.deBruijn64tab", laid_math_bits_deBruijn64tab), ("internal/strconv.uint64pow10", laid_internal_strconv_uint64pow10)], narrowed := true }
def FnPieceProofUptoSaid : Prop := fnPieceProofUptoRow.holds Tryd.pinned (OpenSpec.upto fnPieceProofSpec)

/-- 'laws.FnExactPieceTake', WHERE WHAT IT READS IS OF BULK AT MOST 1048576: true; the input reads as it did. -/
def fnExactPieceTakeUptoRow : OpenClaim := { program := "ytmnephaechgffaadoor", sum := "11950242189cb3bb44356c167f7c50461bb87ae934c9dde8ce5146f3bc625d21", func := "loop.example/wapentake/laws.FnExactPieceTake", spec := "fnExactPieceTake", inPlace := ["internal/abi.NoEscape", "internal/bytealg.MakeNoZero"], recurses := true, named := ["internal/strconv.uint64pow10", "math/bits.deBruijn32tab", "math/bits.deBruijn64tab"], apart := false, laid := [("math/bits.deBruijn32tab", laid_math_bits_deBruijn32tab), ("math/bits.deBruijn64tab", laid_math_bits_deBruijn64tab), ("internal/strconv.uint64pow10", laid_internal_strconv_uint64pow10)], narrowed := true }
def FnExactPieceTakeUptoSaid : Prop := fnExactPieceTakeUptoRow.holds Tryd.pinned (OpenSpec.upto fnExactPieceTakeSpec)

/-- 'laws.FnPieceTake', WHERE WHAT IT READS IS OF BULK AT MOST 1048576: true; the input reads as it did. -/
def fnPieceTakeUptoRow : OpenClaim := { program := "ytmnephaechgffaadoor", sum := "11950242189cb3bb44356c167f7c50461bb87ae934c9dde8ce5146f3bc625d21", func := "loop.example/wapentake/laws.FnPieceTake", spec := "fnPieceTake", inPlace := ["internal/abi.NoEscape", "internal/bytealg.MakeNoZero"], recurses := true, named := ["internal/strconv.uint64pow10", "math/bits.deBruijn32tab", "math/bits.deBruijn64tab"], apart := false, laid := [("math/bits.deBruijn32tab", laid_math_bits_deBruijn32tab), ("math/bits.deBruijn64tab", laid_math_bits_deBruijn64tab), ("internal/strconv.uint64pow10", laid_internal_strconv_uint64pow10)], narrowed := true }
def FnPieceTakeUptoSaid : Prop := fnPieceTakeUptoRow.holds Tryd.pinned (OpenSpec.upto fnPieceTakeSpec)

end Rows
end Go.Proofs.YtmnephaechgffaaDoor
