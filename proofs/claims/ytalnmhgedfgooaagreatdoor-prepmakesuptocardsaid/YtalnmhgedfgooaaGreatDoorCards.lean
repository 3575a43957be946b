/-
  DERIVED. GIVEN WITH THE SEED: THE CARDS: each row of YtalnmhgedfgooaaGreatDoorRows.lean that lists a variable, with what it lists TIED to the program's text (the seventh form; the later family's looks); each row that meets fmt, with fmt's text TOLD by the authors' own Lean function (tested against real Go, not proved from fmt's source: count such statements apart). THE CARD IS WHAT COUNTS. Prove the row's statement (the work); the ties are given (YtalnmhgedfgooaaGreatDoorTie.lean); close each card by the builder's one call (the guide's Derived/Test/ToyasCard.lean, 'card_holds'). Laid BY PROGRAM, IN A SANDBOX (cutbox-door.mjs). By AI agents, Wed Nov 11 2026. No macro, syntax, notation, axiom, sorry.
-/
import Derived.Test.YtalnmhgedfgooaaGreatDoorRows
import GoSem.ClaimSeven
namespace Go.Proofs.YtalnmhgedfgooaaGreatDoor
namespace Rows

/-- THE TIED CARD OF 'aviarylaw.PrepMakes'. -/
def prepMakesCard : Claim7 := { stood := { row := prepMakesRow, standIns := [], harness := (true, "ebcf8a64164e51fac15acdc705b86999bbef8bcb1a1761483b55c82607e76450"), looks := false }, kinds := [], alts := [], laidByText := true, laidKinds := [.data, .data, .data, .data, .pinned], laidTests := true, laidLooks := .later }
def PrepMakesCardSaid : Prop := Claim7.holds Tryz.pinned (.plain (OpenSpec.ofChange prepMakesSpec)) prepMakesCard

/-- THE TIED CARD OF 'aviarykeep.PrepFits'. -/
def prepFitsCard : Claim7 := { stood := { row := prepFitsRow, standIns := [], harness := (true, "ebcf8a64164e51fac15acdc705b86999bbef8bcb1a1761483b55c82607e76450"), looks := false }, kinds := [], alts := [], laidByText := true, laidKinds := [.data, .data, .data, .data, .pinned], laidTests := true, laidLooks := .later }
def PrepFitsCardSaid : Prop := Claim7.holds Tryz.pinned (.plain (OpenSpec.ofChange prepFitsSpec)) prepFitsCard

/-- THE TIED CARD OF 'aviarykeep.PrepVersions'. -/
def prepVersionsCard : Claim7 := { stood := { row := prepVersionsRow, standIns := [], harness := (true, "ebcf8a64164e51fac15acdc705b86999bbef8bcb1a1761483b55c82607e76450"), looks := false }, kinds := [], alts := [], laidByText := true, laidKinds := [.data, .data, .data, .data, .pinned], laidTests := true, laidLooks := .later }
def PrepVersionsCardSaid : Prop := Claim7.holds Tryz.pinned (.plain (OpenSpec.ofChange prepVersionsSpec)) prepVersionsCard

/-- THE TIED CARD OF 'aviarykeep.PrepSerials'. -/
def prepSerialsCard : Claim7 := { stood := { row := prepSerialsRow, standIns := [], harness := (true, "ebcf8a64164e51fac15acdc705b86999bbef8bcb1a1761483b55c82607e76450"), looks := false }, kinds := [], alts := [], laidByText := true, laidKinds := [.data, .data, .data, .data, .pinned], laidTests := true, laidLooks := .later }
def PrepSerialsCardSaid : Prop := Claim7.holds Tryz.pinned (.plain (OpenSpec.ofChange prepSerialsSpec)) prepSerialsCard

/-- THE SECOND FORM's CARD OF 'aviarylaw.PrepMakes'. -/
def prepMakesUptoCard : Claim7 := { stood := { row := prepMakesUptoRow, standIns := [], harness := (true, "ebcf8a64164e51fac15acdc705b86999bbef8bcb1a1761483b55c82607e76450"), looks := false }, kinds := [], alts := [], laidByText := true, laidKinds := [.data, .data, .data, .data, .pinned], laidTests := true, laidLooks := .later }
def PrepMakesUptoCardSaid : Prop := Claim7.holds Tryz.pinned (.plain (OpenSpec.upto prepMakesSpec)) prepMakesUptoCard

/-- THE SECOND FORM's CARD OF 'aviarykeep.PrepFits'. -/
def prepFitsUptoCard : Claim7 := { stood := { row := prepFitsUptoRow, standIns := [], harness := (true, "ebcf8a64164e51fac15acdc705b86999bbef8bcb1a1761483b55c82607e76450"), looks := false }, kinds := [], alts := [], laidByText := true, laidKinds := [.data, .data, .data, .data, .pinned], laidTests := true, laidLooks := .later }
def PrepFitsUptoCardSaid : Prop := Claim7.holds Tryz.pinned (.plain (OpenSpec.upto prepFitsSpec)) prepFitsUptoCard

/-- THE SECOND FORM's CARD OF 'aviarykeep.PrepVersions'. -/
def prepVersionsUptoCard : Claim7 := { stood := { row := prepVersionsUptoRow, standIns := [], harness := (true, "ebcf8a64164e51fac15acdc705b86999bbef8bcb1a1761483b55c82607e76450"), looks := false }, kinds := [], alts := [], laidByText := true, laidKinds := [.data, .data, .data, .data, .pinned], laidTests := true, laidLooks := .later }
def PrepVersionsUptoCardSaid : Prop := Claim7.holds Tryz.pinned (.plain (OpenSpec.upto prepVersionsSpec)) prepVersionsUptoCard

/-- THE SECOND FORM's CARD OF 'aviarykeep.PrepSerials'. -/
def prepSerialsUptoCard : Claim7 := { stood := { row := prepSerialsUptoRow, standIns := [], harness := (true, "ebcf8a64164e51fac15acdc705b86999bbef8bcb1a1761483b55c82607e76450"), looks := false }, kinds := [], alts := [], laidByText := true, laidKinds := [.data, .data, .data, .data, .pinned], laidTests := true, laidLooks := .later }
def PrepSerialsUptoCardSaid : Prop := Claim7.holds Tryz.pinned (.plain (OpenSpec.upto prepSerialsSpec)) prepSerialsUptoCard
end Rows
end Go.Proofs.YtalnmhgedfgooaaGreatDoor
