/-
  DERIVED. GIVEN WITH THE SEED: THE CARDS: each row of YthkggmmalffcdaaGreatDoorRows.lean that lists a variable, with what it lists TIED to the program's text (the seventh form; the later family's looks); each row that meets fmt, with fmt's text TOLD by the authors' own Lean function (tested against real Go, not proved from fmt's source: count such statements apart). THE CARD IS WHAT COUNTS. Prove the row's statement (the work); the ties are given (YthkggmmalffcdaaGreatDoorTie.lean); close each card by the builder's one call (the guide's Derived/Test/ToyasCard.lean, 'card_holds'). Laid BY PROGRAM, IN A SANDBOX (cutbox-door.mjs). By AI agents, Wed Nov 11 2026. No macro, syntax, notation, axiom, sorry.
-/
import Derived.Test.YthkggmmalffcdaaGreatDoorRows
import GoSem.ClaimSeven
namespace Go.Proofs.YthkggmmalffcdaaGreatDoor
namespace Rows

/-- THE TIED CARD OF 'aviarylaw.StoreCommits'. -/
def storeCommitsCard : Claim7 := { stood := { row := storeCommitsRow, standIns := [], harness := (true, "d15ea7425a1ec67536ae0423299c3d8296da46f7e7590869779537d1dd8735ae"), looks := false }, kinds := [], alts := [], laidByText := true, laidKinds := [.data, .pinned], laidTests := true, laidLooks := .later }
def StoreCommitsCardSaid : Prop := Claim7.holds Tryz.pinned (.plain (OpenSpec.ofChange storeCommitsSpec)) storeCommitsCard

/-- THE TIED CARD OF 'aviarylaw.StoreFollows'. -/
def storeFollowsCard : Claim7 := { stood := { row := storeFollowsRow, standIns := [], harness := (true, "d15ea7425a1ec67536ae0423299c3d8296da46f7e7590869779537d1dd8735ae"), looks := false }, kinds := [], alts := [], laidByText := true, laidKinds := [.data, .data, .data, .data, .pinned], laidTests := true, laidLooks := .later }
def StoreFollowsCardSaid : Prop := Claim7.holds Tryz.pinned (.plain (OpenSpec.ofChange storeFollowsSpec)) storeFollowsCard

/-- THE SECOND FORM's CARD OF 'aviarylaw.StoreCommits'. -/
def storeCommitsUptoCard : Claim7 := { stood := { row := storeCommitsUptoRow, standIns := [], harness := (true, "d15ea7425a1ec67536ae0423299c3d8296da46f7e7590869779537d1dd8735ae"), looks := false }, kinds := [], alts := [], laidByText := true, laidKinds := [.data, .pinned], laidTests := true, laidLooks := .later }
def StoreCommitsUptoCardSaid : Prop := Claim7.holds Tryz.pinned (.plain (OpenSpec.upto storeCommitsSpec)) storeCommitsUptoCard

/-- THE SECOND FORM's CARD OF 'aviarylaw.StoreFollows'. -/
def storeFollowsUptoCard : Claim7 := { stood := { row := storeFollowsUptoRow, standIns := [], harness := (true, "d15ea7425a1ec67536ae0423299c3d8296da46f7e7590869779537d1dd8735ae"), looks := false }, kinds := [], alts := [], laidByText := true, laidKinds := [.data, .data, .data, .data, .pinned], laidTests := true, laidLooks := .later }
def StoreFollowsUptoCardSaid : Prop := Claim7.holds Tryz.pinned (.plain (OpenSpec.upto storeFollowsSpec)) storeFollowsUptoCard
end Rows
end Go.Proofs.YthkggmmalffcdaaGreatDoor
