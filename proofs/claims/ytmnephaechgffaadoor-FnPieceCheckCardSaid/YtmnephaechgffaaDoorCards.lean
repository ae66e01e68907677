/-
  DERIVED. GIVEN WITH THE SEED: THE CARDS: each row of YtmnephaechgffaaDoorRows.lean that lists a variable, with what it lists TIED to the program's text (the seventh form; the later family's looks); each row that meets fmt, with fmt's text TOLD by the authors' own Lean function (tested against real Go, not proved from fmt's source: count such statements apart). THE CARD IS WHAT COUNTS. Prove the row's statement (the work); the ties are given (YtmnephaechgffaaDoorTie.lean); close each card by the builder's one call (the guide's Derived/Test/ToyasCard.lean, 'card_holds'). Laid BY PROGRAM, IN A SANDBOX (cutbox-door.mjs). By AI agents, Wed Nov 11 2026. No macro, syntax, notation, axiom, sorry.
-/
import Derived.Test.YtmnephaechgffaaDoorRows
import GoSem.ClaimSeven
namespace Go.Proofs.YtmnephaechgffaaDoor
namespace Rows

/-- THE TIED CARD OF 'laws.FnExactPieceCheck'. -/
def fnExactPieceCheckCard : Claim7 := { stood := { row := fnExactPieceCheckRow, standIns := [], harness := (true, "d19862c03ae4b4f9715e92ab5adeec4d8d079e9b45b17422d7a145dcb681b044"), looks := false }, kinds := [], alts := [], laidByText := true, laidKinds := [.data, .data, .data], laidTests := true, laidLooks := .later }
def FnExactPieceCheckCardSaid : Prop := Claim7.holds Tryd.pinned (.plain (OpenSpec.ofChange fnExactPieceCheckSpec)) fnExactPieceCheckCard

/-- THE TIED CARD OF 'laws.FnPieceCheck'. -/
def fnPieceCheckCard : Claim7 := { stood := { row := fnPieceCheckRow, standIns := [], harness := (true, "d19862c03ae4b4f9715e92ab5adeec4d8d079e9b45b17422d7a145dcb681b044"), looks := false }, kinds := [], alts := [], laidByText := true, laidKinds := [.data, .data, .data], laidTests := true, laidLooks := .later }
def FnPieceCheckCardSaid : Prop := Claim7.holds Tryd.pinned (.plain (OpenSpec.ofChange fnPieceCheckSpec)) fnPieceCheckCard

/-- THE TIED CARD OF 'laws.FnExactPieceRoot'. -/
def fnExactPieceRootCard : Claim7 := { stood := { row := fnExactPieceRootRow, standIns := [], harness := (true, "d19862c03ae4b4f9715e92ab5adeec4d8d079e9b45b17422d7a145dcb681b044"), looks := false }, kinds := [], alts := [], laidByText := true, laidKinds := [.data, .data, .data], laidTests := true, laidLooks := .later }
def FnExactPieceRootCardSaid : Prop := Claim7.holds Tryd.pinned (.plain (OpenSpec.ofChange fnExactPieceRootSpec)) fnExactPieceRootCard

/-- THE TIED CARD OF 'laws.FnPieceRoot'. -/
def fnPieceRootCard : Claim7 := { stood := { row := fnPieceRootRow, standIns := [], harness := (true, "d19862c03ae4b4f9715e92ab5adeec4d8d079e9b45b17422d7a145dcb681b044"), looks := false }, kinds := [], alts := [], laidByText := true, laidKinds := [.data, .data, .data], laidTests := true, laidLooks := .later }
def FnPieceRootCardSaid : Prop := Claim7.holds Tryd.pinned (.plain (OpenSpec.ofChange fnPieceRootSpec)) fnPieceRootCard

/-- THE TIED CARD OF 'laws.FnExactPieceProof'. -/
def fnExactPieceProofCard : Claim7 := { stood := { row := fnExactPieceProofRow, standIns := [], harness := (true, "d19862c03ae4b4f9715e92ab5adeec4d8d079e9b45b17422d7a145dcb681b044"), looks := false }, kinds := [], alts := [], laidByText := true, laidKinds := [.data, .data, .data], laidTests := true, laidLooks := .later }
def FnExactPieceProofCardSaid : Prop := Claim7.holds Tryd.pinned (.plain (OpenSpec.ofChange fnExactPieceProofSpec)) fnExactPieceProofCard

/-- THE TIED CARD OF 'laws.FnPieceProof'. -/
def fnPieceProofCard : Claim7 := { stood := { row := fnPieceProofRow, standIns := [], harness := (true, "d19862c03ae4b4f9715e92ab5adeec4d8d079e9b45b17422d7a145dcb681b044"), looks := false }, kinds := [], alts := [], laidByText := true, laidKinds := [.data, .data, .data], laidTests := true, laidLooks := .later }
def FnPieceProofCardSaid : Prop := Claim7.holds Tryd.pinned (.plain (OpenSpec.ofChange fnPieceProofSpec)) fnPieceProofCard

/-- THE TIED CARD OF 'laws.FnExactPieceTake'. -/
def fnExactPieceTakeCard : Claim7 := { stood := { row := fnExactPieceTakeRow, standIns := [], harness := (true, "d19862c03ae4b4f9715e92ab5adeec4d8d079e9b45b17422d7a145dcb681b044"), looks := false }, kinds := [], alts := [], laidByText := true, laidKinds := [.data, .data, .data], laidTests := true, laidLooks := .later }
def FnExactPieceTakeCardSaid : Prop := Claim7.holds Tryd.pinned (.plain (OpenSpec.ofChange fnExactPieceTakeSpec)) fnExactPieceTakeCard

/-- THE TIED CARD OF 'laws.FnPieceTake'. -/
def fnPieceTakeCard : Claim7 := { stood := { row := fnPieceTakeRow, standIns := [], harness := (true, "d19862c03ae4b4f9715e92ab5adeec4d8d079e9b45b17422d7a145dcb681b044"), looks := false }, kinds := [], alts := [], laidByText := true, laidKinds := [.data, .data, .data], laidTests := true, laidLooks := .later }
def FnPieceTakeCardSaid : Prop := Claim7.holds Tryd.pinned (.plain (OpenSpec.ofChange fnPieceTakeSpec)) fnPieceTakeCard

/-- THE SECOND FORM's CARD OF 'laws.FnExactPieceCheck'. -/
def fnExactPieceCheckUptoCard : Claim7 := { stood := { row := fnExactPieceCheckUptoRow, standIns := [], harness := (true, "d19862c03ae4b4f9715e92ab5adeec4d8d079e9b45b17422d7a145dcb681b044"), looks := false }, kinds := [], alts := [], laidByText := true, laidKinds := [.data, .data, .data], laidTests := true, laidLooks := .later }
def FnExactPieceCheckUptoCardSaid : Prop := Claim7.holds Tryd.pinned (.plain (OpenSpec.upto fnExactPieceCheckSpec)) fnExactPieceCheckUptoCard

/-- THE SECOND FORM's CARD OF 'laws.FnPieceCheck'. -/
def fnPieceCheckUptoCard : Claim7 := { stood := { row := fnPieceCheckUptoRow, standIns := [], harness := (true, "d19862c03ae4b4f9715e92ab5adeec4d8d079e9b45b17422d7a145dcb681b044"), looks := false }, kinds := [], alts := [], laidByText := true, laidKinds := [.data, .data, .data], laidTests := true, laidLooks := .later }
def FnPieceCheckUptoCardSaid : Prop := Claim7.holds Tryd.pinned (.plain (OpenSpec.upto fnPieceCheckSpec)) fnPieceCheckUptoCard

/-- THE SECOND FORM's CARD OF 'laws.FnExactPieceRoot'. -/
def fnExactPieceRootUptoCard : Claim7 := { stood := { row := fnExactPieceRootUptoRow, standIns := [], harness := (true, "d19862c03ae4b4f9715e92ab5adeec4d8d079e9b45b17422d7a145dcb681b044"), looks := false }, kinds := [], alts := [], laidByText := true, laidKinds := [.data, .data, .data], laidTests := true, laidLooks := .later }
def FnExactPieceRootUptoCardSaid : Prop := Claim7.holds Tryd.pinned (.plain (OpenSpec.upto fnExactPieceRootSpec)) fnExactPieceRootUptoCard

/-- THE SECOND FORM's CARD OF 'laws.FnPieceRoot'. -/
def fnPieceRootUptoCard : Claim7 := { stood := { row := fnPieceRootUptoRow, standIns := [], harness := (true, "d19862c03ae4b4f9715e92ab5adeec4d8d079e9b45b17422d7a145dcb681b044"), looks := false }, kinds := [], alts := [], laidByText := true, laidKinds := [.data, .data, .data], laidTests := true, laidLooks := .later }
def FnPieceRootUptoCardSaid : Prop := Claim7.holds Tryd.pinned (.plain (OpenSpec.upto fnPieceRootSpec)) fnPieceRootUptoCard

/-- THE SECOND FORM's CARD OF 'laws.FnExactPieceProof'. -/
def fnExactPieceProofUptoCard : Claim7 := { stood := { row := fnExactPieceProofUptoRow, standIns := [], harness := (true, "d19862c03ae4b4f9715e92ab5adeec4d8d079e9b45b17422d7a145dcb681b044"), looks := false }, kinds := [], alts := [], laidByText := true, laidKinds := [.data, .data, .data], laidTests := true, laidLooks := .later }
def FnExactPieceProofUptoCardSaid : Prop := Claim7.holds Tryd.pinned (.plain (OpenSpec.upto fnExactPieceProofSpec)) fnExactPieceProofUptoCard

/-- THE SECOND FORM's CARD OF 'laws.FnPieceProof'. -/
def fnPieceProofUptoCard : Claim7 := { stood := { row := fnPieceProofUptoRow, standIns := [], harness := (true, "d19862c03ae4b4f9715e92ab5adeec4d8d079e9b45b17422d7a145dcb681b044"), looks := false }, kinds := [], alts := [], laidByText := true, laidKinds := [.data, .data, .data], laidTests := true, laidLooks := .later }
def FnPieceProofUptoCardSaid : Prop := Claim7.holds Tryd.pinned (.plain (OpenSpec.upto fnPieceProofSpec)) fnPieceProofUptoCard

/-- THE SECOND FORM's CARD OF 'laws.FnExactPieceTake'. -/
def fnExactPieceTakeUptoCard : Claim7 := { stood := { row := fnExactPieceTakeUptoRow, standIns := [], harness := (true, "d19862c03ae4b4f9715e92ab5adeec4d8d079e9b45b17422d7a145dcb681b044"), looks := false }, kinds := [], alts := [], laidByText := true, laidKinds := [.data, .data, .data], laidTests := true, laidLooks := .later }
def FnExactPieceTakeUptoCardSaid : Prop := Claim7.holds Tryd.pinned (.plain (OpenSpec.upto fnExactPieceTakeSpec)) fnExactPieceTakeUptoCard

/-- THE SECOND FORM's CARD OF 'laws.FnPieceTake'. -/
def fnPieceTakeUptoCard : Claim7 := { stood := { row := fnPieceTakeUptoRow, standIns := [], harness := (true, "d19862c03ae4b4f9715e92ab5adeec4d8d079e9b45b17422d7a145dcb681b044"), looks := false }, kinds := [], alts := [], laidByText := true, laidKinds := [.data, .data, .data], laidTests := true, laidLooks := .later }
def FnPieceTakeUptoCardSaid : Prop := Claim7.holds Tryd.pinned (.plain (OpenSpec.upto fnPieceTakeSpec)) fnPieceTakeUptoCard
end Rows
end Go.Proofs.YtmnephaechgffaaDoor
