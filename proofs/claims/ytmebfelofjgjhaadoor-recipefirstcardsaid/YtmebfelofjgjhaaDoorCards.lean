/-
  DERIVED. GIVEN WITH THE SEED: THE CARDS: each row of YtmebfelofjgjhaaDoorRows.lean that lists a variable, with what it lists TIED to the program's text (the seventh form; the later family's looks); each row that meets fmt, with fmt's text TOLD by the authors' own Lean function (tested against real Go, not proved from fmt's source: count such statements apart). THE CARD IS WHAT COUNTS. Prove the row's statement (the work); the ties are given (YtmebfelofjgjhaaDoorTie.lean); close each card by the builder's one call (the guide's Derived/Test/ToyasCard.lean, 'card_holds'). Laid BY PROGRAM, IN A SANDBOX (cutbox-door.mjs). By AI agents, Wed Nov 11 2026. No macro, syntax, notation, axiom, sorry.
-/
import Derived.Test.YtmebfelofjgjhaaDoorRows
import GoSem.ClaimSeven
namespace Go.Proofs.YtmebfelofjgjhaaDoor
namespace Rows

/-- THE TIED CARD OF 'aviarykeep.RecipeFirst'. -/
def recipeFirstCard : Claim7 := { stood := { row := recipeFirstRow, standIns := [], harness := (true, "3c988c52e3c6e616845e7dd84fd7c13f1e398eae3f995f5f4d90c4df9b82a67f"), looks := false }, kinds := [], alts := [], laidByText := true, laidKinds := [.data, .pinned], laidTests := true, laidLooks := .later }
def RecipeFirstCardSaid : Prop := Claim7.holds Tryd.pinned (.plain (OpenSpec.ofChange recipeFirstSpec)) recipeFirstCard

/-- THE SECOND FORM's CARD OF 'aviarykeep.RecipeFirst'. -/
def recipeFirstUptoCard : Claim7 := { stood := { row := recipeFirstUptoRow, standIns := [], harness := (true, "3c988c52e3c6e616845e7dd84fd7c13f1e398eae3f995f5f4d90c4df9b82a67f"), looks := false }, kinds := [], alts := [], laidByText := true, laidKinds := [.data, .pinned], laidTests := true, laidLooks := .later }
def RecipeFirstUptoCardSaid : Prop := Claim7.holds Tryd.pinned (.plain (OpenSpec.upto recipeFirstSpec)) recipeFirstUptoCard
end Rows
end Go.Proofs.YtmebfelofjgjhaaDoor
