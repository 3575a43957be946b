/-
  DERIVED. GIVEN WITH THE SEED: THE CARDS: each row of YtaoflcmeiaffjaaGreatDoorRows.lean that lists a variable, with what it lists TIED to the program's text (the seventh form; the later family's looks); each row that meets fmt, with fmt's text TOLD by the authors' own Lean function (tested against real Go, not proved from fmt's source: count such statements apart). THE CARD IS WHAT COUNTS. Prove the row's statement (the work); the ties are given (YtaoflcmeiaffjaaGreatDoorTie.lean); close each card by the builder's one call (the guide's Derived/Test/ToyasCard.lean, 'card_holds'). Laid BY PROGRAM, IN A SANDBOX (cutbox-door.mjs). By AI agents, Wed Nov 11 2026. No macro, syntax, notation, axiom, sorry.
-/
import Derived.Test.YtaoflcmeiaffjaaGreatDoorRows
import GoSem.ClaimSeven
namespace Go.Proofs.YtaoflcmeiaffjaaGreatDoor
namespace Rows

/-- THE TIED CARD OF 'aviarylaw.StoreBoots'. -/
def storeBootsCard : Claim7 := { stood := { row := storeBootsRow, standIns := [], harness := (true, "6460a3abbb5b9150343c45c8fe2a6005f0c9ae04c8c8d437e31f060a4e8462ee"), looks := false }, kinds := [], alts := [], laidByText := true, laidKinds := [.data, .data, .data, .data, .pinned], laidTests := true, laidLooks := .later }
def StoreBootsCardSaid : Prop := Claim7.holds Tryz.pinned (.plain (OpenSpec.ofChange storeBootsSpec)) storeBootsCard

/-- THE TIED CARD OF 'aviarylaw.StoreTakes'. -/
def storeTakesCard : Claim7 := { stood := { row := storeTakesRow, standIns := [], harness := (true, "6460a3abbb5b9150343c45c8fe2a6005f0c9ae04c8c8d437e31f060a4e8462ee"), looks := false }, kinds := [], alts := [], laidByText := true, laidKinds := [.data, .pinned], laidTests := true, laidLooks := .later }
def StoreTakesCardSaid : Prop := Claim7.holds Tryz.pinned (.plain (OpenSpec.ofChange storeTakesSpec)) storeTakesCard

/-- THE TIED CARD OF 'aviarylaw.StoreCommits'. -/
def storeCommitsCard : Claim7 := { stood := { row := storeCommitsRow, standIns := [], harness := (true, "6460a3abbb5b9150343c45c8fe2a6005f0c9ae04c8c8d437e31f060a4e8462ee"), looks := false }, kinds := [], alts := [], laidByText := true, laidKinds := [.data, .pinned], laidTests := true, laidLooks := .later }
def StoreCommitsCardSaid : Prop := Claim7.holds Tryz.pinned (.plain (OpenSpec.ofChange storeCommitsSpec)) storeCommitsCard

/-- THE TIED CARD OF 'aviarylaw.StoreFollows'. -/
def storeFollowsCard : Claim7 := { stood := { row := storeFollowsRow, standIns := [], harness := (true, "6460a3abbb5b9150343c45c8fe2a6005f0c9ae04c8c8d437e31f060a4e8462ee"), looks := false }, kinds := [], alts := [], laidByText := true, laidKinds := [.data, .data, .data, .data, .pinned], laidTests := true, laidLooks := .later }
def StoreFollowsCardSaid : Prop := Claim7.holds Tryz.pinned (.plain (OpenSpec.ofChange storeFollowsSpec)) storeFollowsCard

/-- THE SECOND FORM's CARD OF 'aviarylaw.StoreBoots'. -/
def storeBootsUptoCard : Claim7 := { stood := { row := storeBootsUptoRow, standIns := [], harness := (true, "6460a3abbb5b9150343c45c8fe2a6005f0c9ae04c8c8d437e31f060a4e8462ee"), looks := false }, kinds := [], alts := [], laidByText := true, laidKinds := [.data, .data, .data, .data, .pinned], laidTests := true, laidLooks := .later }
def StoreBootsUptoCardSaid : Prop := Claim7.holds Tryz.pinned (.plain (OpenSpec.upto storeBootsSpec)) storeBootsUptoCard

/-- THE SECOND FORM's CARD OF 'aviarylaw.StoreTakes'. -/
def storeTakesUptoCard : Claim7 := { stood := { row := storeTakesUptoRow, standIns := [], harness := (true, "6460a3abbb5b9150343c45c8fe2a6005f0c9ae04c8c8d437e31f060a4e8462ee"), looks := false }, kinds := [], alts := [], laidByText := true, laidKinds := [.data, .pinned], laidTests := true, laidLooks := .later }
def StoreTakesUptoCardSaid : Prop := Claim7.holds Tryz.pinned (.plain (OpenSpec.upto storeTakesSpec)) storeTakesUptoCard

/-- THE SECOND FORM's CARD OF 'aviarylaw.StoreCommits'. -/
def storeCommitsUptoCard : Claim7 := { stood := { row := storeCommitsUptoRow, standIns := [], harness := (true, "6460a3abbb5b9150343c45c8fe2a6005f0c9ae04c8c8d437e31f060a4e8462ee"), looks := false }, kinds := [], alts := [], laidByText := true, laidKinds := [.data, .pinned], laidTests := true, laidLooks := .later }
def StoreCommitsUptoCardSaid : Prop := Claim7.holds Tryz.pinned (.plain (OpenSpec.upto storeCommitsSpec)) storeCommitsUptoCard

/-- THE SECOND FORM's CARD OF 'aviarylaw.StoreFollows'. -/
def storeFollowsUptoCard : Claim7 := { stood := { row := storeFollowsUptoRow, standIns := [], harness := (true, "6460a3abbb5b9150343c45c8fe2a6005f0c9ae04c8c8d437e31f060a4e8462ee"), looks := false }, kinds := [], alts := [], laidByText := true, laidKinds := [.data, .data, .data, .data, .pinned], laidTests := true, laidLooks := .later }
def StoreFollowsUptoCardSaid : Prop := Claim7.holds Tryz.pinned (.plain (OpenSpec.upto storeFollowsSpec)) storeFollowsUptoCard
end Rows
end Go.Proofs.YtaoflcmeiaffjaaGreatDoor
