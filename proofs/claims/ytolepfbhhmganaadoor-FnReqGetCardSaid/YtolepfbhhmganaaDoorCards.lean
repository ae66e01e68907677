/-
  DERIVED. GIVEN WITH THE SEED: THE CARDS: each row of YtolepfbhhmganaaDoorRows.lean that lists a variable, with what it lists TIED to the program's text (the seventh form; the later family's looks); each row that meets fmt, with fmt's text TOLD by the authors' own Lean function (tested against real Go, not proved from fmt's source: count such statements apart). THE CARD IS WHAT COUNTS. Prove the row's statement (the work); the ties are given (YtolepfbhhmganaaDoorTie.lean); close each card by the builder's one call (the guide's Derived/Test/ToyasCard.lean, 'card_holds'). Laid BY PROGRAM, IN A SANDBOX (cutbox-door.mjs). By AI agents, Wed Nov 11 2026. No macro, syntax, notation, axiom, sorry.
-/
import Derived.Test.YtolepfbhhmganaaDoorRows
import GoSem.ClaimSeven
namespace Go.Proofs.YtolepfbhhmganaaDoor
namespace Rows

/-- THE TIED CARD OF 'laws.FnExactReqPut'. -/
def fnExactReqPutCard : Claim7 := { stood := { row := fnExactReqPutRow, standIns := [], harness := (true, "7918b164eae5cb491ef62f9b4bf877ae84a141246cdb1dff74cec8094af5b4d7"), looks := true }, kinds := [], alts := [], laidByText := true, laidKinds := [.data, .data, .data], laidTests := true, laidLooks := .later }
def FnExactReqPutCardSaid : Prop := Claim7.holds Tryd.pinned (.plain (OpenSpec.ofChange fnExactReqPutSpec)) fnExactReqPutCard

/-- THE TIED CARD OF 'laws.FnReqPut'. -/
def fnReqPutCard : Claim7 := { stood := { row := fnReqPutRow, standIns := [], harness := (true, "7918b164eae5cb491ef62f9b4bf877ae84a141246cdb1dff74cec8094af5b4d7"), looks := true }, kinds := [], alts := [], laidByText := true, laidKinds := [.data, .data, .data, .data, .sentinel, .sentinel, .pinned], laidTests := true, laidLooks := .later }
def FnReqPutCardSaid : Prop := Claim7.holds Tryd.pinned (.plain (OpenSpec.ofChange fnReqPutSpec)) fnReqPutCard

/-- THE TIED CARD OF 'laws.FnExactReqGet'. -/
def fnExactReqGetCard : Claim7 := { stood := { row := fnExactReqGetRow, standIns := [], harness := (true, "7918b164eae5cb491ef62f9b4bf877ae84a141246cdb1dff74cec8094af5b4d7"), looks := true }, kinds := [], alts := [], laidByText := true, laidKinds := [.data, .data, .data, .data, .sentinel, .sentinel, .pinned], laidTests := true, laidLooks := .later }
def FnExactReqGetCardSaid : Prop := Claim7.holds Tryd.pinned (.plain (OpenSpec.ofChange fnExactReqGetSpec)) fnExactReqGetCard

/-- THE TIED CARD OF 'laws.FnReqGet'. -/
def fnReqGetCard : Claim7 := { stood := { row := fnReqGetRow, standIns := [], harness := (true, "7918b164eae5cb491ef62f9b4bf877ae84a141246cdb1dff74cec8094af5b4d7"), looks := true }, kinds := [], alts := [], laidByText := true, laidKinds := [.data, .data, .data, .data, .sentinel, .sentinel, .pinned], laidTests := true, laidLooks := .later }
def FnReqGetCardSaid : Prop := Claim7.holds Tryd.pinned (.plain (OpenSpec.ofChange fnReqGetSpec)) fnReqGetCard

/-- THE SECOND FORM's CARD OF 'laws.FnExactReqPut'. -/
def fnExactReqPutUptoCard : Claim7 := { stood := { row := fnExactReqPutUptoRow, standIns := [], harness := (true, "7918b164eae5cb491ef62f9b4bf877ae84a141246cdb1dff74cec8094af5b4d7"), looks := true }, kinds := [], alts := [], laidByText := true, laidKinds := [.data, .data, .data], laidTests := true, laidLooks := .later }
def FnExactReqPutUptoCardSaid : Prop := Claim7.holds Tryd.pinned (.plain (OpenSpec.upto fnExactReqPutSpec)) fnExactReqPutUptoCard

/-- THE SECOND FORM's CARD OF 'laws.FnReqPut'. -/
def fnReqPutUptoCard : Claim7 := { stood := { row := fnReqPutUptoRow, standIns := [], harness := (true, "7918b164eae5cb491ef62f9b4bf877ae84a141246cdb1dff74cec8094af5b4d7"), looks := true }, kinds := [], alts := [], laidByText := true, laidKinds := [.data, .data, .data, .data, .sentinel, .sentinel, .pinned], laidTests := true, laidLooks := .later }
def FnReqPutUptoCardSaid : Prop := Claim7.holds Tryd.pinned (.plain (OpenSpec.upto fnReqPutSpec)) fnReqPutUptoCard

/-- THE SECOND FORM's CARD OF 'laws.FnExactReqGet'. -/
def fnExactReqGetUptoCard : Claim7 := { stood := { row := fnExactReqGetUptoRow, standIns := [], harness := (true, "7918b164eae5cb491ef62f9b4bf877ae84a141246cdb1dff74cec8094af5b4d7"), looks := true }, kinds := [], alts := [], laidByText := true, laidKinds := [.data, .data, .data, .data, .sentinel, .sentinel, .pinned], laidTests := true, laidLooks := .later }
def FnExactReqGetUptoCardSaid : Prop := Claim7.holds Tryd.pinned (.plain (OpenSpec.upto fnExactReqGetSpec)) fnExactReqGetUptoCard

/-- THE SECOND FORM's CARD OF 'laws.FnReqGet'. -/
def fnReqGetUptoCard : Claim7 := { stood := { row := fnReqGetUptoRow, standIns := [], harness := (true, "7918b164eae5cb491ef62f9b4bf877ae84a141246cdb1dff74cec8094af5b4d7"), looks := true }, kinds := [], alts := [], laidByText := true, laidKinds := [.data, .data, .data, .data, .sentinel, .sentinel, .pinned], laidTests := true, laidLooks := .later }
def FnReqGetUptoCardSaid : Prop := Claim7.holds Tryd.pinned (.plain (OpenSpec.upto fnReqGetSpec)) fnReqGetUptoCard
end Rows
end Go.Proofs.YtolepfbhhmganaaDoor
