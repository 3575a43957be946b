/-
  DERIVED. GIVEN WITH THE SEED: THE CARDS: each row of YtkgaoedlnejigaaDoorRows.lean that lists a variable, with what it lists TIED to the program's text (the seventh form; the later family's looks); each row that meets fmt, with fmt's text TOLD by the authors' own Lean function (tested against real Go, not proved from fmt's source: count such statements apart). THE CARD IS WHAT COUNTS. Prove the row's statement (the work); the ties are given (YtkgaoedlnejigaaDoorTie.lean); close each card by the builder's one call (the guide's Derived/Test/ToyasCard.lean, 'card_holds'). Laid BY PROGRAM, IN A SANDBOX (cutbox-door.mjs). By AI agents, Wed Nov 11 2026. No macro, syntax, notation, axiom, sorry.
-/
import Derived.Test.YtkgaoedlnejigaaDoorRows
import GoSem.ClaimSeven
namespace Go.Proofs.YtkgaoedlnejigaaDoor
namespace Rows

/-- THE TIED CARD OF 'aviarylaw.RecipeLines'. -/
def recipeLinesCard : Claim7 := { stood := { row := recipeLinesRow, standIns := [], harness := (true, "7a9459eaf2250a4fe74468c42ce80279dca62642d4d47d8bae468bb29430bf8c"), looks := false }, kinds := [], alts := [], laidByText := true, laidKinds := [.data, .pinned], laidTests := true, laidLooks := .later }
def RecipeLinesCardSaid : Prop := Claim7.holds Tryd.pinned (.plain (OpenSpec.ofChange recipeLinesSpec)) recipeLinesCard

/-- THE TIED CARD OF 'aviarylaw.RecipeReady'. -/
def recipeReadyCard : Claim7 := { stood := { row := recipeReadyRow, standIns := [], harness := (true, "7a9459eaf2250a4fe74468c42ce80279dca62642d4d47d8bae468bb29430bf8c"), looks := false }, kinds := [], alts := [], laidByText := true, laidKinds := [.data, .pinned], laidTests := true, laidLooks := .later }
def RecipeReadyCardSaid : Prop := Claim7.holds Tryd.pinned (.plain (OpenSpec.ofChange recipeReadySpec)) recipeReadyCard

/-- THE SECOND FORM's CARD OF 'aviarylaw.RecipeLines'. -/
def recipeLinesUptoCard : Claim7 := { stood := { row := recipeLinesUptoRow, standIns := [], harness := (true, "7a9459eaf2250a4fe74468c42ce80279dca62642d4d47d8bae468bb29430bf8c"), looks := false }, kinds := [], alts := [], laidByText := true, laidKinds := [.data, .pinned], laidTests := true, laidLooks := .later }
def RecipeLinesUptoCardSaid : Prop := Claim7.holds Tryd.pinned (.plain (OpenSpec.upto recipeLinesSpec)) recipeLinesUptoCard

/-- THE SECOND FORM's CARD OF 'aviarylaw.RecipeReady'. -/
def recipeReadyUptoCard : Claim7 := { stood := { row := recipeReadyUptoRow, standIns := [], harness := (true, "7a9459eaf2250a4fe74468c42ce80279dca62642d4d47d8bae468bb29430bf8c"), looks := false }, kinds := [], alts := [], laidByText := true, laidKinds := [.data, .pinned], laidTests := true, laidLooks := .later }
def RecipeReadyUptoCardSaid : Prop := Claim7.holds Tryd.pinned (.plain (OpenSpec.upto recipeReadySpec)) recipeReadyUptoCard
end Rows
end Go.Proofs.YtkgaoedlnejigaaDoor
