/-
  DERIVED. GIVEN WITH THE SEED: THE CARDS: each row of YtpdlefafgbdadaaDoorRows.lean that lists a variable, with what it lists TIED to the program's text (the seventh form; the later family's looks); each row that meets fmt, with fmt's text TOLD by the authors' own Lean function (tested against real Go, not proved from fmt's source: count such statements apart). THE CARD IS WHAT COUNTS. Prove the row's statement (the work); the ties are given (YtpdlefafgbdadaaDoorTie.lean); close each card by the builder's one call (the guide's Derived/Test/ToyasCard.lean, 'card_holds'). Laid BY PROGRAM, IN A SANDBOX (cutbox-door.mjs). By AI agents, Wed Nov 11 2026. No macro, syntax, notation, axiom, sorry.
-/
import Derived.Test.YtpdlefafgbdadaaDoorRows
import GoSem.ClaimSeven
namespace Go.Proofs.YtpdlefafgbdadaaDoor
namespace Rows

/-- THE TIED CARD OF 'aviarylaw.ZxidParts'. -/
def zxidPartsCard : Claim7 := { stood := { row := zxidPartsRow, standIns := [], harness := (true, "b85a6fa73ec83344a65123c6d5c9dc960fb56f0a8ad4bcff782ad381748d218e"), looks := false }, kinds := [], alts := [], laidByText := true, laidKinds := [.data, .data, .data], laidTests := true, laidLooks := .later }
def ZxidPartsCardSaid : Prop := Claim7.holds Tryd.pinned (.plain (OpenSpec.ofChange zxidPartsSpec)) zxidPartsCard

/-- THE TIED CARD OF 'aviarykeep.ZxidBack'. -/
def zxidBackCard : Claim7 := { stood := { row := zxidBackRow, standIns := [], harness := (true, "b85a6fa73ec83344a65123c6d5c9dc960fb56f0a8ad4bcff782ad381748d218e"), looks := false }, kinds := [], alts := [], laidByText := true, laidKinds := [.data, .data, .data], laidTests := true, laidLooks := .later }
def ZxidBackCardSaid : Prop := Claim7.holds Tryd.pinned (.plain (OpenSpec.ofChange zxidBackSpec)) zxidBackCard

/-- THE TIED CARD OF 'aviarykeep.ZxidOnly'. -/
def zxidOnlyCard : Claim7 := { stood := { row := zxidOnlyRow, standIns := [], harness := (true, "b85a6fa73ec83344a65123c6d5c9dc960fb56f0a8ad4bcff782ad381748d218e"), looks := false }, kinds := [], alts := [], laidByText := true, laidKinds := [.data, .data, .data], laidTests := true, laidLooks := .later }
def ZxidOnlyCardSaid : Prop := Claim7.holds Tryd.pinned (.plain (OpenSpec.ofChange zxidOnlySpec)) zxidOnlyCard

/-- THE SECOND FORM's CARD OF 'aviarylaw.ZxidParts'. -/
def zxidPartsUptoCard : Claim7 := { stood := { row := zxidPartsUptoRow, standIns := [], harness := (true, "b85a6fa73ec83344a65123c6d5c9dc960fb56f0a8ad4bcff782ad381748d218e"), looks := false }, kinds := [], alts := [], laidByText := true, laidKinds := [.data, .data, .data], laidTests := true, laidLooks := .later }
def ZxidPartsUptoCardSaid : Prop := Claim7.holds Tryd.pinned (.plain (OpenSpec.upto zxidPartsSpec)) zxidPartsUptoCard

/-- THE SECOND FORM's CARD OF 'aviarykeep.ZxidBack'. -/
def zxidBackUptoCard : Claim7 := { stood := { row := zxidBackUptoRow, standIns := [], harness := (true, "b85a6fa73ec83344a65123c6d5c9dc960fb56f0a8ad4bcff782ad381748d218e"), looks := false }, kinds := [], alts := [], laidByText := true, laidKinds := [.data, .data, .data], laidTests := true, laidLooks := .later }
def ZxidBackUptoCardSaid : Prop := Claim7.holds Tryd.pinned (.plain (OpenSpec.upto zxidBackSpec)) zxidBackUptoCard

/-- THE SECOND FORM's CARD OF 'aviarykeep.ZxidOnly'. -/
def zxidOnlyUptoCard : Claim7 := { stood := { row := zxidOnlyUptoRow, standIns := [], harness := (true, "b85a6fa73ec83344a65123c6d5c9dc960fb56f0a8ad4bcff782ad381748d218e"), looks := false }, kinds := [], alts := [], laidByText := true, laidKinds := [.data, .data, .data], laidTests := true, laidLooks := .later }
def ZxidOnlyUptoCardSaid : Prop := Claim7.holds Tryd.pinned (.plain (OpenSpec.upto zxidOnlySpec)) zxidOnlyUptoCard
end Rows
end Go.Proofs.YtpdlefafgbdadaaDoor
