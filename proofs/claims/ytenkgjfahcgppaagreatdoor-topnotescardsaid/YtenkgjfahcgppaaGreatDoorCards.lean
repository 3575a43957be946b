/-
  DERIVED. GIVEN WITH THE SEED: THE CARDS: each row of YtenkgjfahcgppaaGreatDoorRows.lean that lists a variable, with what it lists TIED to the program's text (the seventh form; the later family's looks); each row that meets fmt, with fmt's text TOLD by the authors' own Lean function (tested against real Go, not proved from fmt's source: count such statements apart). THE CARD IS WHAT COUNTS. Prove the row's statement (the work); the ties are given (YtenkgjfahcgppaaGreatDoorTie.lean); close each card by the builder's one call (the guide's Derived/Test/ToyasCard.lean, 'card_holds'). Laid BY PROGRAM, IN A SANDBOX (cutbox-door.mjs). By AI agents, Wed Nov 11 2026. No macro, syntax, notation, axiom, sorry.
-/
import Derived.Test.YtenkgjfahcgppaaGreatDoorRows
import GoSem.ClaimSeven
namespace Go.Proofs.YtenkgjfahcgppaaGreatDoor
namespace Rows

/-- THE TIED CARD OF 'aviarytop.TopKept'. -/
def topKeptCard : Claim7 := { stood := { row := topKeptRow, standIns := [], harness := (true, "09888373b8b5a2479a96329ff85be523c3c335fa2dbb0d12416b301604bfeb9a"), looks := false }, kinds := [], alts := [], laidByText := true, laidKinds := [.data, .data, .data, .data, .pinned], laidTests := true, laidLooks := .later }
def TopKeptCardSaid : Prop := Claim7.holds Tryz.pinned (.plain (OpenSpec.ofChange topKeptSpec)) topKeptCard

/-- THE TIED CARD OF 'aviarytop.TopTrees'. -/
def topTreesCard : Claim7 := { stood := { row := topTreesRow, standIns := [], harness := (true, "09888373b8b5a2479a96329ff85be523c3c335fa2dbb0d12416b301604bfeb9a"), looks := false }, kinds := [], alts := [], laidByText := true, laidKinds := [.data, .data, .data, .data, .pinned], laidTests := true, laidLooks := .later }
def TopTreesCardSaid : Prop := Claim7.holds Tryz.pinned (.plain (OpenSpec.ofChange topTreesSpec)) topTreesCard

/-- THE TIED CARD OF 'aviarytop.TopNotes'. -/
def topNotesCard : Claim7 := { stood := { row := topNotesRow, standIns := [], harness := (true, "09888373b8b5a2479a96329ff85be523c3c335fa2dbb0d12416b301604bfeb9a"), looks := false }, kinds := [], alts := [], laidByText := true, laidKinds := [.data, .data, .data, .data, .pinned], laidTests := true, laidLooks := .later }
def TopNotesCardSaid : Prop := Claim7.holds Tryz.pinned (.plain (OpenSpec.ofChange topNotesSpec)) topNotesCard

/-- THE SECOND FORM's CARD OF 'aviarytop.TopKept'. -/
def topKeptUptoCard : Claim7 := { stood := { row := topKeptUptoRow, standIns := [], harness := (true, "09888373b8b5a2479a96329ff85be523c3c335fa2dbb0d12416b301604bfeb9a"), looks := false }, kinds := [], alts := [], laidByText := true, laidKinds := [.data, .data, .data, .data, .pinned], laidTests := true, laidLooks := .later }
def TopKeptUptoCardSaid : Prop := Claim7.holds Tryz.pinned (.plain (OpenSpec.upto topKeptSpec)) topKeptUptoCard

/-- THE SECOND FORM's CARD OF 'aviarytop.TopTrees'. -/
def topTreesUptoCard : Claim7 := { stood := { row := topTreesUptoRow, standIns := [], harness := (true, "09888373b8b5a2479a96329ff85be523c3c335fa2dbb0d12416b301604bfeb9a"), looks := false }, kinds := [], alts := [], laidByText := true, laidKinds := [.data, .data, .data, .data, .pinned], laidTests := true, laidLooks := .later }
def TopTreesUptoCardSaid : Prop := Claim7.holds Tryz.pinned (.plain (OpenSpec.upto topTreesSpec)) topTreesUptoCard

/-- THE SECOND FORM's CARD OF 'aviarytop.TopNotes'. -/
def topNotesUptoCard : Claim7 := { stood := { row := topNotesUptoRow, standIns := [], harness := (true, "09888373b8b5a2479a96329ff85be523c3c335fa2dbb0d12416b301604bfeb9a"), looks := false }, kinds := [], alts := [], laidByText := true, laidKinds := [.data, .data, .data, .data, .pinned], laidTests := true, laidLooks := .later }
def TopNotesUptoCardSaid : Prop := Claim7.holds Tryz.pinned (.plain (OpenSpec.upto topNotesSpec)) topNotesUptoCard
end Rows
end Go.Proofs.YtenkgjfahcgppaaGreatDoor
