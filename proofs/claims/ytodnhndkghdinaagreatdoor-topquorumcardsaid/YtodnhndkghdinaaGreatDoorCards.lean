/-
  DERIVED. GIVEN WITH THE SEED: THE CARDS: each row of YtodnhndkghdinaaGreatDoorRows.lean that lists a variable, with what it lists TIED to the program's text (the seventh form; the later family's looks); each row that meets fmt, with fmt's text TOLD by the authors' own Lean function (tested against real Go, not proved from fmt's source: count such statements apart). THE CARD IS WHAT COUNTS. Prove the row's statement (the work); the ties are given (YtodnhndkghdinaaGreatDoorTie.lean); close each card by the builder's one call (the guide's Derived/Test/ToyasCard.lean, 'card_holds'). Laid BY PROGRAM, IN A SANDBOX (cutbox-door.mjs). By AI agents, Wed Nov 11 2026. No macro, syntax, notation, axiom, sorry.
-/
import Derived.Test.YtodnhndkghdinaaGreatDoorRows
import GoSem.ClaimSeven
namespace Go.Proofs.YtodnhndkghdinaaGreatDoor
namespace Rows

/-- THE TIED CARD OF 'aviarytop.TopDisks'. -/
def topDisksCard : Claim7 := { stood := { row := topDisksRow, standIns := [], harness := (true, "e96ce6b68d35b69197c06f9cdec1fedb75aa671ed29942bc37bbb4e9a138228a"), looks := false }, kinds := [], alts := [], laidByText := true, laidKinds := [.data, .data, .data, .data, .pinned], laidTests := true, laidLooks := .later }
def TopDisksCardSaid : Prop := Claim7.holds Tryz.pinned (.plain (OpenSpec.ofChange topDisksSpec)) topDisksCard

/-- THE TIED CARD OF 'aviarytop.TopOwned'. -/
def topOwnedCard : Claim7 := { stood := { row := topOwnedRow, standIns := [], harness := (true, "e96ce6b68d35b69197c06f9cdec1fedb75aa671ed29942bc37bbb4e9a138228a"), looks := false }, kinds := [], alts := [], laidByText := true, laidKinds := [.data, .data, .data, .data, .pinned], laidTests := true, laidLooks := .later }
def TopOwnedCardSaid : Prop := Claim7.holds Tryz.pinned (.plain (OpenSpec.ofChange topOwnedSpec)) topOwnedCard

/-- THE TIED CARD OF 'aviarytop.TopQuorum'. -/
def topQuorumCard : Claim7 := { stood := { row := topQuorumRow, standIns := [], harness := (true, "e96ce6b68d35b69197c06f9cdec1fedb75aa671ed29942bc37bbb4e9a138228a"), looks := false }, kinds := [], alts := [], laidByText := true, laidKinds := [.data, .data, .data, .data, .pinned], laidTests := true, laidLooks := .later }
def TopQuorumCardSaid : Prop := Claim7.holds Tryz.pinned (.plain (OpenSpec.ofChange topQuorumSpec)) topQuorumCard

/-- THE SECOND FORM's CARD OF 'aviarytop.TopDisks'. -/
def topDisksUptoCard : Claim7 := { stood := { row := topDisksUptoRow, standIns := [], harness := (true, "e96ce6b68d35b69197c06f9cdec1fedb75aa671ed29942bc37bbb4e9a138228a"), looks := false }, kinds := [], alts := [], laidByText := true, laidKinds := [.data, .data, .data, .data, .pinned], laidTests := true, laidLooks := .later }
def TopDisksUptoCardSaid : Prop := Claim7.holds Tryz.pinned (.plain (OpenSpec.upto topDisksSpec)) topDisksUptoCard

/-- THE SECOND FORM's CARD OF 'aviarytop.TopOwned'. -/
def topOwnedUptoCard : Claim7 := { stood := { row := topOwnedUptoRow, standIns := [], harness := (true, "e96ce6b68d35b69197c06f9cdec1fedb75aa671ed29942bc37bbb4e9a138228a"), looks := false }, kinds := [], alts := [], laidByText := true, laidKinds := [.data, .data, .data, .data, .pinned], laidTests := true, laidLooks := .later }
def TopOwnedUptoCardSaid : Prop := Claim7.holds Tryz.pinned (.plain (OpenSpec.upto topOwnedSpec)) topOwnedUptoCard

/-- THE SECOND FORM's CARD OF 'aviarytop.TopQuorum'. -/
def topQuorumUptoCard : Claim7 := { stood := { row := topQuorumUptoRow, standIns := [], harness := (true, "e96ce6b68d35b69197c06f9cdec1fedb75aa671ed29942bc37bbb4e9a138228a"), looks := false }, kinds := [], alts := [], laidByText := true, laidKinds := [.data, .data, .data, .data, .pinned], laidTests := true, laidLooks := .later }
def TopQuorumUptoCardSaid : Prop := Claim7.holds Tryz.pinned (.plain (OpenSpec.upto topQuorumSpec)) topQuorumUptoCard
end Rows
end Go.Proofs.YtodnhndkghdinaaGreatDoor
