/-
  DERIVED. GIVEN WITH THE SEED: THE CARDS: each row of YtbkndjhogaloiaaGreatDoorRows.lean that lists a variable, with what it lists TIED to the program's text (the seventh form; the later family's looks); each row that meets fmt, with fmt's text TOLD by the authors' own Lean function (tested against real Go, not proved from fmt's source: count such statements apart). THE CARD IS WHAT COUNTS. Prove the row's statement (the work); the ties are given (YtbkndjhogaloiaaGreatDoorTie.lean); close each card by the builder's one call (the guide's Derived/Test/ToyasCard.lean, 'card_holds'). Laid BY PROGRAM, IN A SANDBOX (cutbox-door.mjs). By AI agents, Wed Nov 11 2026. No macro, syntax, notation, axiom, sorry.
-/
import Derived.Test.YtbkndjhogaloiaaGreatDoorRows
import GoSem.ClaimSeven
namespace Go.Proofs.YtbkndjhogaloiaaGreatDoor
namespace Rows

/-- THE TIED CARD OF 'aviarykeep.StoreFollowed'. -/
def storeFollowedCard : Claim7 := { stood := { row := storeFollowedRow, standIns := [], harness := (true, "238623e56be2fefef0ca1b779cf1ab89a2ba2bb4168500e3a14fdc48f5cda9fe"), looks := false }, kinds := [], alts := [], laidByText := true, laidKinds := [.data, .data, .data, .data, .pinned], laidTests := true, laidLooks := .later }
def StoreFollowedCardSaid : Prop := Claim7.holds Tryz.pinned (.plain (OpenSpec.ofChange storeFollowedSpec)) storeFollowedCard

/-- THE SECOND FORM's CARD OF 'aviarykeep.StoreFollowed'. -/
def storeFollowedUptoCard : Claim7 := { stood := { row := storeFollowedUptoRow, standIns := [], harness := (true, "238623e56be2fefef0ca1b779cf1ab89a2ba2bb4168500e3a14fdc48f5cda9fe"), looks := false }, kinds := [], alts := [], laidByText := true, laidKinds := [.data, .data, .data, .data, .pinned], laidTests := true, laidLooks := .later }
def StoreFollowedUptoCardSaid : Prop := Claim7.holds Tryz.pinned (.plain (OpenSpec.upto storeFollowedSpec)) storeFollowedUptoCard
end Rows
end Go.Proofs.YtbkndjhogaloiaaGreatDoor
