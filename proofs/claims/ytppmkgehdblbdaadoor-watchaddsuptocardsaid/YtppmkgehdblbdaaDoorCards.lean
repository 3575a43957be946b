/-
  DERIVED. GIVEN WITH THE SEED: THE CARDS: each row of YtppmkgehdblbdaaDoorRows.lean that lists a variable, with what it lists TIED to the program's text (the seventh form; the later family's looks); each row that meets fmt, with fmt's text TOLD by the authors' own Lean function (tested against real Go, not proved from fmt's source: count such statements apart). THE CARD IS WHAT COUNTS. Prove the row's statement (the work); the ties are given (YtppmkgehdblbdaaDoorTie.lean); close each card by the builder's one call (the guide's Derived/Test/ToyasCard.lean, 'card_holds'). Laid BY PROGRAM, IN A SANDBOX (cutbox-door.mjs). By AI agents, Wed Nov 11 2026. No macro, syntax, notation, axiom, sorry.
-/
import Derived.Test.YtppmkgehdblbdaaDoorRows
import GoSem.ClaimSeven
namespace Go.Proofs.YtppmkgehdblbdaaDoor
namespace Rows

/-- THE TIED CARD OF 'aviarylaw.WatchAdds'. -/
def watchAddsCard : Claim7 := { stood := { row := watchAddsRow, standIns := [], harness := (true, "d7024556c26a8cf2e00c07b33455f3d9a8b8604a70d97c02ebefc44cd3246bcd"), looks := false }, kinds := [], alts := [], laidByText := true, laidKinds := [.data, .pinned], laidTests := true, laidLooks := .later }
def WatchAddsCardSaid : Prop := Claim7.holds Tryd.pinned (.plain (OpenSpec.ofChange watchAddsSpec)) watchAddsCard

/-- THE TIED CARD OF 'aviarykeep.WatchAdded'. -/
def watchAddedCard : Claim7 := { stood := { row := watchAddedRow, standIns := [], harness := (true, "d7024556c26a8cf2e00c07b33455f3d9a8b8604a70d97c02ebefc44cd3246bcd"), looks := false }, kinds := [], alts := [], laidByText := true, laidKinds := [.data, .pinned], laidTests := true, laidLooks := .later }
def WatchAddedCardSaid : Prop := Claim7.holds Tryd.pinned (.plain (OpenSpec.ofChange watchAddedSpec)) watchAddedCard

/-- THE SECOND FORM's CARD OF 'aviarylaw.WatchAdds'. -/
def watchAddsUptoCard : Claim7 := { stood := { row := watchAddsUptoRow, standIns := [], harness := (true, "d7024556c26a8cf2e00c07b33455f3d9a8b8604a70d97c02ebefc44cd3246bcd"), looks := false }, kinds := [], alts := [], laidByText := true, laidKinds := [.data, .pinned], laidTests := true, laidLooks := .later }
def WatchAddsUptoCardSaid : Prop := Claim7.holds Tryd.pinned (.plain (OpenSpec.upto watchAddsSpec)) watchAddsUptoCard

/-- THE SECOND FORM's CARD OF 'aviarykeep.WatchAdded'. -/
def watchAddedUptoCard : Claim7 := { stood := { row := watchAddedUptoRow, standIns := [], harness := (true, "d7024556c26a8cf2e00c07b33455f3d9a8b8604a70d97c02ebefc44cd3246bcd"), looks := false }, kinds := [], alts := [], laidByText := true, laidKinds := [.data, .pinned], laidTests := true, laidLooks := .later }
def WatchAddedUptoCardSaid : Prop := Claim7.holds Tryd.pinned (.plain (OpenSpec.upto watchAddedSpec)) watchAddedUptoCard
end Rows
end Go.Proofs.YtppmkgehdblbdaaDoor
