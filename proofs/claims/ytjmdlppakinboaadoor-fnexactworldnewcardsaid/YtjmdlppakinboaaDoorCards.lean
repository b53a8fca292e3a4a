/-
  DERIVED. GIVEN WITH THE SEED: THE CARDS: each row of YtjmdlppakinboaaDoorRows.lean that lists a variable, with what it lists TIED to the program's text (the seventh form; the later family's looks); each row that meets fmt, with fmt's text TOLD by the authors' own Lean function (tested against real Go, not proved from fmt's source: count such statements apart). THE CARD IS WHAT COUNTS. Prove the row's statement (the work); the ties are given (YtjmdlppakinboaaDoorTie.lean); close each card by the builder's one call (the guide's Derived/Test/ToyasCard.lean, 'card_holds'). Laid BY PROGRAM, IN A SANDBOX (cutbox-door.mjs). By AI agents, Wed Nov 11 2026. No macro, syntax, notation, axiom, sorry.
-/
import Derived.Test.YtjmdlppakinboaaDoorRows
import GoSem.ClaimSeven
namespace Go.Proofs.YtjmdlppakinboaaDoor
namespace Rows

/-- THE TIED CARD OF 'laws.FnExactKeepNew'. -/
def fnExactKeepNewCard : Claim7 := { stood := { row := fnExactKeepNewRow, standIns := [], harness := (true, "38542b220258cdda0262201fcb54c0df7507db02a31ed0ae03a2dd23f1ce4191"), looks := true }, kinds := [], alts := [], laidByText := true, laidKinds := [.handle], laidTests := true, laidLooks := .later }
def FnExactKeepNewCardSaid : Prop := Claim7.holds Tryd.pinned (.plain (OpenSpec.ofChange fnExactKeepNewSpec)) fnExactKeepNewCard

/-- THE TIED CARD OF 'laws.FnExactWorldNew'. -/
def fnExactWorldNewCard : Claim7 := { stood := { row := fnExactWorldNewRow, standIns := [], harness := (true, "38542b220258cdda0262201fcb54c0df7507db02a31ed0ae03a2dd23f1ce4191"), looks := true }, kinds := [], alts := [], laidByText := true, laidKinds := [.handle], laidTests := true, laidLooks := .later }
def FnExactWorldNewCardSaid : Prop := Claim7.holds Tryd.pinned (.plain (OpenSpec.ofChange fnExactWorldNewSpec)) fnExactWorldNewCard

/-- THE SECOND FORM's CARD OF 'laws.FnExactKeepNew'. -/
def fnExactKeepNewUptoCard : Claim7 := { stood := { row := fnExactKeepNewUptoRow, standIns := [], harness := (true, "38542b220258cdda0262201fcb54c0df7507db02a31ed0ae03a2dd23f1ce4191"), looks := true }, kinds := [], alts := [], laidByText := true, laidKinds := [.handle], laidTests := true, laidLooks := .later }
def FnExactKeepNewUptoCardSaid : Prop := Claim7.holds Tryd.pinned (.plain (OpenSpec.upto fnExactKeepNewSpec)) fnExactKeepNewUptoCard

/-- THE SECOND FORM's CARD OF 'laws.FnExactWorldNew'. -/
def fnExactWorldNewUptoCard : Claim7 := { stood := { row := fnExactWorldNewUptoRow, standIns := [], harness := (true, "38542b220258cdda0262201fcb54c0df7507db02a31ed0ae03a2dd23f1ce4191"), looks := true }, kinds := [], alts := [], laidByText := true, laidKinds := [.handle], laidTests := true, laidLooks := .later }
def FnExactWorldNewUptoCardSaid : Prop := Claim7.holds Tryd.pinned (.plain (OpenSpec.upto fnExactWorldNewSpec)) fnExactWorldNewUptoCard
end Rows
end Go.Proofs.YtjmdlppakinboaaDoor
