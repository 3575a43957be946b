/-
  DERIVED. GIVEN WITH THE SEED: THE CARDS: each row of YtbhkhchkjckdjaaDoorRows.lean that lists a variable, with what it lists TIED to the program's text (the seventh form; the later family's looks); each row that meets fmt, with fmt's text TOLD by the authors' own Lean function (tested against real Go, not proved from fmt's source: count such statements apart). THE CARD IS WHAT COUNTS. Prove the row's statement (the work); the ties are given (YtbhkhchkjckdjaaDoorTie.lean); close each card by the builder's one call (the guide's Derived/Test/ToyasCard.lean, 'card_holds'). Laid BY PROGRAM, IN A SANDBOX (cutbox-door.mjs). By AI agents, Wed Nov 11 2026. No macro, syntax, notation, axiom, sorry.
-/
import Derived.Test.YtbhkhchkjckdjaaDoorRows
import GoSem.ClaimSeven
namespace Go.Proofs.YtbhkhchkjckdjaaDoor
namespace Rows

/-- THE TIED CARD OF 'aviarylaw.PathGoods'. -/
def pathGoodsCard : Claim7 := { stood := { row := pathGoodsRow, standIns := [], harness := (true, "a099ff3720d8a7257e9a10fe3a1b150fbce74042fc7ecdcd6f4356ce9088d45b"), looks := false }, kinds := [], alts := [], laidByText := true, laidKinds := [.data, .pinned], laidTests := true, laidLooks := .later }
def PathGoodsCardSaid : Prop := Claim7.holds Tryd.pinned (.plain (OpenSpec.ofChange pathGoodsSpec)) pathGoodsCard

/-- THE TIED CARD OF 'aviarylaw.PathSplits'. -/
def pathSplitsCard : Claim7 := { stood := { row := pathSplitsRow, standIns := [], harness := (true, "a099ff3720d8a7257e9a10fe3a1b150fbce74042fc7ecdcd6f4356ce9088d45b"), looks := false }, kinds := [], alts := [], laidByText := true, laidKinds := [.data, .pinned], laidTests := true, laidLooks := .later }
def PathSplitsCardSaid : Prop := Claim7.holds Tryd.pinned (.plain (OpenSpec.ofChange pathSplitsSpec)) pathSplitsCard

/-- THE TIED CARD OF 'aviarylaw.PathJoins'. -/
def pathJoinsCard : Claim7 := { stood := { row := pathJoinsRow, standIns := [], harness := (true, "a099ff3720d8a7257e9a10fe3a1b150fbce74042fc7ecdcd6f4356ce9088d45b"), looks := false }, kinds := [], alts := [], laidByText := true, laidKinds := [.data, .data, .data, .data, .pinned], laidTests := true, laidLooks := .later }
def PathJoinsCardSaid : Prop := Claim7.holds Tryd.pinned (.plain (OpenSpec.ofChange pathJoinsSpec)) pathJoinsCard

/-- THE TIED CARD OF 'aviarylaw.PathUnders'. -/
def pathUndersCard : Claim7 := { stood := { row := pathUndersRow, standIns := [], harness := (true, "a099ff3720d8a7257e9a10fe3a1b150fbce74042fc7ecdcd6f4356ce9088d45b"), looks := false }, kinds := [], alts := [], laidByText := true, laidKinds := [.data, .pinned], laidTests := true, laidLooks := .later }
def PathUndersCardSaid : Prop := Claim7.holds Tryd.pinned (.plain (OpenSpec.ofChange pathUndersSpec)) pathUndersCard

/-- THE TIED CARD OF 'aviarykeep.PathJoined'. -/
def pathJoinedCard : Claim7 := { stood := { row := pathJoinedRow, standIns := [], harness := (true, "a099ff3720d8a7257e9a10fe3a1b150fbce74042fc7ecdcd6f4356ce9088d45b"), looks := false }, kinds := [], alts := [], laidByText := true, laidKinds := [.data, .pinned], laidTests := true, laidLooks := .later }
def PathJoinedCardSaid : Prop := Claim7.holds Tryd.pinned (.plain (OpenSpec.ofChange pathJoinedSpec)) pathJoinedCard

/-- THE TIED CARD OF 'aviarykeep.PathApart'. -/
def pathApartCard : Claim7 := { stood := { row := pathApartRow, standIns := [], harness := (true, "a099ff3720d8a7257e9a10fe3a1b150fbce74042fc7ecdcd6f4356ce9088d45b"), looks := false }, kinds := [], alts := [], laidByText := true, laidKinds := [.data, .pinned], laidTests := true, laidLooks := .later }
def PathApartCardSaid : Prop := Claim7.holds Tryd.pinned (.plain (OpenSpec.ofChange pathApartSpec)) pathApartCard

/-- THE SECOND FORM's CARD OF 'aviarylaw.PathGoods'. -/
def pathGoodsUptoCard : Claim7 := { stood := { row := pathGoodsUptoRow, standIns := [], harness := (true, "a099ff3720d8a7257e9a10fe3a1b150fbce74042fc7ecdcd6f4356ce9088d45b"), looks := false }, kinds := [], alts := [], laidByText := true, laidKinds := [.data, .pinned], laidTests := true, laidLooks := .later }
def PathGoodsUptoCardSaid : Prop := Claim7.holds Tryd.pinned (.plain (OpenSpec.upto pathGoodsSpec)) pathGoodsUptoCard

/-- THE SECOND FORM's CARD OF 'aviarylaw.PathSplits'. -/
def pathSplitsUptoCard : Claim7 := { stood := { row := pathSplitsUptoRow, standIns := [], harness := (true, "a099ff3720d8a7257e9a10fe3a1b150fbce74042fc7ecdcd6f4356ce9088d45b"), looks := false }, kinds := [], alts := [], laidByText := true, laidKinds := [.data, .pinned], laidTests := true, laidLooks := .later }
def PathSplitsUptoCardSaid : Prop := Claim7.holds Tryd.pinned (.plain (OpenSpec.upto pathSplitsSpec)) pathSplitsUptoCard

/-- THE SECOND FORM's CARD OF 'aviarylaw.PathJoins'. -/
def pathJoinsUptoCard : Claim7 := { stood := { row := pathJoinsUptoRow, standIns := [], harness := (true, "a099ff3720d8a7257e9a10fe3a1b150fbce74042fc7ecdcd6f4356ce9088d45b"), looks := false }, kinds := [], alts := [], laidByText := true, laidKinds := [.data, .data, .data, .data, .pinned], laidTests := true, laidLooks := .later }
def PathJoinsUptoCardSaid : Prop := Claim7.holds Tryd.pinned (.plain (OpenSpec.upto pathJoinsSpec)) pathJoinsUptoCard

/-- THE SECOND FORM's CARD OF 'aviarylaw.PathUnders'. -/
def pathUndersUptoCard : Claim7 := { stood := { row := pathUndersUptoRow, standIns := [], harness := (true, "a099ff3720d8a7257e9a10fe3a1b150fbce74042fc7ecdcd6f4356ce9088d45b"), looks := false }, kinds := [], alts := [], laidByText := true, laidKinds := [.data, .pinned], laidTests := true, laidLooks := .later }
def PathUndersUptoCardSaid : Prop := Claim7.holds Tryd.pinned (.plain (OpenSpec.upto pathUndersSpec)) pathUndersUptoCard

/-- THE SECOND FORM's CARD OF 'aviarykeep.PathJoined'. -/
def pathJoinedUptoCard : Claim7 := { stood := { row := pathJoinedUptoRow, standIns := [], harness := (true, "a099ff3720d8a7257e9a10fe3a1b150fbce74042fc7ecdcd6f4356ce9088d45b"), looks := false }, kinds := [], alts := [], laidByText := true, laidKinds := [.data, .pinned], laidTests := true, laidLooks := .later }
def PathJoinedUptoCardSaid : Prop := Claim7.holds Tryd.pinned (.plain (OpenSpec.upto pathJoinedSpec)) pathJoinedUptoCard

/-- THE SECOND FORM's CARD OF 'aviarykeep.PathApart'. -/
def pathApartUptoCard : Claim7 := { stood := { row := pathApartUptoRow, standIns := [], harness := (true, "a099ff3720d8a7257e9a10fe3a1b150fbce74042fc7ecdcd6f4356ce9088d45b"), looks := false }, kinds := [], alts := [], laidByText := true, laidKinds := [.data, .pinned], laidTests := true, laidLooks := .later }
def PathApartUptoCardSaid : Prop := Claim7.holds Tryd.pinned (.plain (OpenSpec.upto pathApartSpec)) pathApartUptoCard
end Rows
end Go.Proofs.YtbhkhchkjckdjaaDoor
