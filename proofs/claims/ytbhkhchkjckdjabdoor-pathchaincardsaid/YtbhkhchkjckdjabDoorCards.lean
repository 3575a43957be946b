/-
  DERIVED. GIVEN WITH THE SEED: THE CARDS: each row of YtbhkhchkjckdjabDoorRows.lean that lists a variable, with what it lists TIED to the program's text (the seventh form; the later family's looks); each row that meets fmt, with fmt's text TOLD by the authors' own Lean function (tested against real Go, not proved from fmt's source: count such statements apart). THE CARD IS WHAT COUNTS. Prove the row's statement (the work); the ties are given (YtbhkhchkjckdjabDoorTie.lean); close each card by the builder's one call (the guide's Derived/Test/ToyasCard.lean, 'card_holds'). Laid BY PROGRAM, IN A SANDBOX (cutbox-door.mjs). By AI agents, Wed Nov 11 2026. No macro, syntax, notation, axiom, sorry.
-/
import Derived.Test.YtbhkhchkjckdjabDoorRows
import GoSem.ClaimSeven
namespace Go.Proofs.YtbhkhchkjckdjabDoor
namespace Rows

/-- THE TIED CARD OF 'aviarykeep.PathChain'. -/
def pathChainCard : Claim7 := { stood := { row := pathChainRow, standIns := [], harness := (true, "47f3b5a04231b4a512ef9b3449048f9d24875a6940dd43a1244af4f4d5f776a4"), looks := false }, kinds := [], alts := [], laidByText := true, laidKinds := [.data, .pinned], laidTests := true, laidLooks := .later }
def PathChainCardSaid : Prop := Claim7.holds Tryd.pinned (.plain (OpenSpec.ofChange pathChainSpec)) pathChainCard

/-- THE TIED CARD OF 'aviarykeep.PathSerials'. -/
def pathSerialsCard : Claim7 := { stood := { row := pathSerialsRow, standIns := [], harness := (true, "47f3b5a04231b4a512ef9b3449048f9d24875a6940dd43a1244af4f4d5f776a4"), looks := false }, kinds := [], alts := [], laidByText := true, laidKinds := [.data, .data, .data], laidTests := true, laidLooks := .later }
def PathSerialsCardSaid : Prop := Claim7.holds Tryd.pinned (.plain (OpenSpec.ofChange pathSerialsSpec)) pathSerialsCard

/-- THE SECOND FORM's CARD OF 'aviarykeep.PathChain'. -/
def pathChainUptoCard : Claim7 := { stood := { row := pathChainUptoRow, standIns := [], harness := (true, "47f3b5a04231b4a512ef9b3449048f9d24875a6940dd43a1244af4f4d5f776a4"), looks := false }, kinds := [], alts := [], laidByText := true, laidKinds := [.data, .pinned], laidTests := true, laidLooks := .later }
def PathChainUptoCardSaid : Prop := Claim7.holds Tryd.pinned (.plain (OpenSpec.upto pathChainSpec)) pathChainUptoCard

/-- THE SECOND FORM's CARD OF 'aviarykeep.PathSerials'. -/
def pathSerialsUptoCard : Claim7 := { stood := { row := pathSerialsUptoRow, standIns := [], harness := (true, "47f3b5a04231b4a512ef9b3449048f9d24875a6940dd43a1244af4f4d5f776a4"), looks := false }, kinds := [], alts := [], laidByText := true, laidKinds := [.data, .data, .data], laidTests := true, laidLooks := .later }
def PathSerialsUptoCardSaid : Prop := Claim7.holds Tryd.pinned (.plain (OpenSpec.upto pathSerialsSpec)) pathSerialsUptoCard
end Rows
end Go.Proofs.YtbhkhchkjckdjabDoor
