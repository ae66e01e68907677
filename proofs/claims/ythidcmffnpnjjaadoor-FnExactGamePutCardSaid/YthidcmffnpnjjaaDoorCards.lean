/-
  DERIVED. GIVEN WITH THE SEED: THE CARDS: each row of YthidcmffnpnjjaaDoorRows.lean that lists a variable, with what it lists TIED to the program's text (the seventh form; the later family's looks); each row that meets fmt, with fmt's text TOLD by the authors' own Lean function (tested against real Go, not proved from fmt's source: count such statements apart). THE CARD IS WHAT COUNTS. Prove the row's statement (the work); the ties are given (YthidcmffnpnjjaaDoorTie.lean); close each card by the builder's one call (the guide's Derived/Test/ToyasCard.lean, 'card_holds'). Laid BY PROGRAM, IN A SANDBOX (cutbox-door.mjs). By AI agents, Wed Nov 11 2026. No macro, syntax, notation, axiom, sorry.
-/
import Derived.Test.YthidcmffnpnjjaaDoorRows
import GoSem.ClaimSeven
namespace Go.Proofs.YthidcmffnpnjjaaDoor
namespace Rows

/-- THE TIED CARD OF 'laws.FnExactGamePut'. -/
def fnExactGamePutCard : Claim7 := { stood := { row := fnExactGamePutRow, standIns := [], harness := (true, "7d4b47ac905cc3251fc8b690bc3d38d845ab03504a48108befdcd9a6e4cd6770"), looks := false }, kinds := [], alts := [], laidByText := true, laidKinds := [.data, .data, .data], laidTests := true, laidLooks := .later }
def FnExactGamePutCardSaid : Prop := Claim7.holds Tryd.pinned (.plain (OpenSpec.ofChange fnExactGamePutSpec)) fnExactGamePutCard

/-- THE SECOND FORM's CARD OF 'laws.FnExactGamePut'. -/
def fnExactGamePutUptoCard : Claim7 := { stood := { row := fnExactGamePutUptoRow, standIns := [], harness := (true, "7d4b47ac905cc3251fc8b690bc3d38d845ab03504a48108befdcd9a6e4cd6770"), looks := false }, kinds := [], alts := [], laidByText := true, laidKinds := [.data, .data, .data], laidTests := true, laidLooks := .later }
def FnExactGamePutUptoCardSaid : Prop := Claim7.holds Tryd.pinned (.plain (OpenSpec.upto fnExactGamePutSpec)) fnExactGamePutUptoCard
end Rows
end Go.Proofs.YthidcmffnpnjjaaDoor
