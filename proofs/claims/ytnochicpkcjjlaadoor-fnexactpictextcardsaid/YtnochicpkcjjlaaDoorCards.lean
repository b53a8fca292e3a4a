/-
  DERIVED. GIVEN WITH THE SEED: THE CARDS: each row of YtnochicpkcjjlaaDoorRows.lean that lists a variable, with what it lists TIED to the program's text (the seventh form; the later family's looks); each row that meets fmt, with fmt's text TOLD by the authors' own Lean function (tested against real Go, not proved from fmt's source: count such statements apart). THE CARD IS WHAT COUNTS. Prove the row's statement (the work); the ties are given (YtnochicpkcjjlaaDoorTie.lean); close each card by the builder's one call (the guide's Derived/Test/ToyasCard.lean, 'card_holds'). Laid BY PROGRAM, IN A SANDBOX (cutbox-door.mjs). By AI agents, Wed Nov 11 2026. No macro, syntax, notation, axiom, sorry.
-/
import Derived.Test.YtnochicpkcjjlaaDoorRows
import GoSem.ClaimSeven
namespace Go.Proofs.YtnochicpkcjjlaaDoor
namespace Rows

/-- THE TIED CARD OF 'laws.FnPicText'. -/
def fnPicTextCard : Claim7 := { stood := { row := fnPicTextRow, standIns := [], harness := (true, "b6db88c3d4bbfcf1fc7cfff53b97b27662463f36d83dc0a7bbcf38d14285071b"), looks := false }, kinds := [], alts := [], laidByText := true, laidKinds := [.data, .data, .data], laidTests := true, laidLooks := .later }
def FnPicTextCardSaid : Prop := Claim7.holds Tryd.pinned (.plain (OpenSpec.ofChange fnPicTextSpec)) fnPicTextCard

/-- THE TIED CARD OF 'laws.FnExactPicText'. -/
def fnExactPicTextCard : Claim7 := { stood := { row := fnExactPicTextRow, standIns := [], harness := (true, "b6db88c3d4bbfcf1fc7cfff53b97b27662463f36d83dc0a7bbcf38d14285071b"), looks := false }, kinds := [], alts := [], laidByText := true, laidKinds := [.data, .data, .data], laidTests := true, laidLooks := .later }
def FnExactPicTextCardSaid : Prop := Claim7.holds Tryd.pinned (.plain (OpenSpec.ofChange fnExactPicTextSpec)) fnExactPicTextCard

/-- THE SECOND FORM's CARD OF 'laws.FnPicText'. -/
def fnPicTextUptoCard : Claim7 := { stood := { row := fnPicTextUptoRow, standIns := [], harness := (true, "b6db88c3d4bbfcf1fc7cfff53b97b27662463f36d83dc0a7bbcf38d14285071b"), looks := false }, kinds := [], alts := [], laidByText := true, laidKinds := [.data, .data, .data], laidTests := true, laidLooks := .later }
def FnPicTextUptoCardSaid : Prop := Claim7.holds Tryd.pinned (.plain (OpenSpec.upto fnPicTextSpec)) fnPicTextUptoCard

/-- THE SECOND FORM's CARD OF 'laws.FnExactPicText'. -/
def fnExactPicTextUptoCard : Claim7 := { stood := { row := fnExactPicTextUptoRow, standIns := [], harness := (true, "b6db88c3d4bbfcf1fc7cfff53b97b27662463f36d83dc0a7bbcf38d14285071b"), looks := false }, kinds := [], alts := [], laidByText := true, laidKinds := [.data, .data, .data], laidTests := true, laidLooks := .later }
def FnExactPicTextUptoCardSaid : Prop := Claim7.holds Tryd.pinned (.plain (OpenSpec.upto fnExactPicTextSpec)) fnExactPicTextUptoCard
end Rows
end Go.Proofs.YtnochicpkcjjlaaDoor
