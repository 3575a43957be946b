/-
  DERIVED. GIVEN WITH THE SEED: THE CARDS: each row of YtcplpbelficbeaaGreatDoorRows.lean that lists a variable, with what it lists TIED to the program's text (the seventh form; the later family's looks); each row that meets fmt, with fmt's text TOLD by the authors' own Lean function (tested against real Go, not proved from fmt's source: count such statements apart). THE CARD IS WHAT COUNTS. Prove the row's statement (the work); the ties are given (YtcplpbelficbeaaGreatDoorTie.lean); close each card by the builder's one call (the guide's Derived/Test/ToyasCard.lean, 'card_holds'). Laid BY PROGRAM, IN A SANDBOX (cutbox-door.mjs). By AI agents, Wed Nov 11 2026. No macro, syntax, notation, axiom, sorry.
-/
import Derived.Test.YtcplpbelficbeaaGreatDoorRows
import GoSem.ClaimSeven
namespace Go.Proofs.YtcplpbelficbeaaGreatDoor
namespace Rows

/-- THE TIED CARD OF 'aviarykeep.RecipeQueue'. -/
def recipeQueueCard : Claim7 := { stood := { row := recipeQueueRow, standIns := [], harness := (true, "bca858217efd29110e8cdbb580f14c3f083f352d35f064aef11d30f8431cd0cc"), looks := false }, kinds := [], alts := [], laidByText := true, laidKinds := [.data, .data, .data, .data, .pinned], laidTests := true, laidLooks := .later }
def RecipeQueueCardSaid : Prop := Claim7.holds Tryz.pinned (.plain (OpenSpec.ofChange recipeQueueSpec)) recipeQueueCard

/-- THE SECOND FORM's CARD OF 'aviarykeep.RecipeQueue'. -/
def recipeQueueUptoCard : Claim7 := { stood := { row := recipeQueueUptoRow, standIns := [], harness := (true, "bca858217efd29110e8cdbb580f14c3f083f352d35f064aef11d30f8431cd0cc"), looks := false }, kinds := [], alts := [], laidByText := true, laidKinds := [.data, .data, .data, .data, .pinned], laidTests := true, laidLooks := .later }
def RecipeQueueUptoCardSaid : Prop := Claim7.holds Tryz.pinned (.plain (OpenSpec.upto recipeQueueSpec)) recipeQueueUptoCard
end Rows
end Go.Proofs.YtcplpbelficbeaaGreatDoor
