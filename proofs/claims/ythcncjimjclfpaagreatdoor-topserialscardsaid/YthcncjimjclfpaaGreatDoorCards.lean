/-
  DERIVED. GIVEN WITH THE SEED: THE CARDS: each row of YthcncjimjclfpaaGreatDoorRows.lean that lists a variable, with what it lists TIED to the program's text (the seventh form; the later family's looks); each row that meets fmt, with fmt's text TOLD by the authors' own Lean function (tested against real Go, not proved from fmt's source: count such statements apart). THE CARD IS WHAT COUNTS. Prove the row's statement (the work); the ties are given (YthcncjimjclfpaaGreatDoorTie.lean); close each card by the builder's one call (the guide's Derived/Test/ToyasCard.lean, 'card_holds'). Laid BY PROGRAM, IN A SANDBOX (cutbox-door.mjs). By AI agents, Wed Nov 11 2026. No macro, syntax, notation, axiom, sorry.
-/
import Derived.Test.YthcncjimjclfpaaGreatDoorRows
import GoSem.ClaimSeven
namespace Go.Proofs.YthcncjimjclfpaaGreatDoor
namespace Rows

/-- THE TIED CARD OF 'aviarytop.TopCache'. -/
def topCacheCard : Claim7 := { stood := { row := topCacheRow, standIns := [], harness := (true, "c89d716b9af14f953842b8d6b6fabc0529bdbaf10b57d46b6f586c4306d75f94"), looks := false }, kinds := [], alts := [], laidByText := true, laidKinds := [.data, .data, .data, .data, .pinned], laidTests := true, laidLooks := .later }
def TopCacheCardSaid : Prop := Claim7.holds Tryz.pinned (.plain (OpenSpec.ofChange topCacheSpec)) topCacheCard

/-- THE TIED CARD OF 'aviarytop.TopSerials'. -/
def topSerialsCard : Claim7 := { stood := { row := topSerialsRow, standIns := [], harness := (true, "c89d716b9af14f953842b8d6b6fabc0529bdbaf10b57d46b6f586c4306d75f94"), looks := false }, kinds := [], alts := [], laidByText := true, laidKinds := [.data, .data, .data, .data, .pinned], laidTests := true, laidLooks := .later }
def TopSerialsCardSaid : Prop := Claim7.holds Tryz.pinned (.plain (OpenSpec.ofChange topSerialsSpec)) topSerialsCard

/-- THE SECOND FORM's CARD OF 'aviarytop.TopCache'. -/
def topCacheUptoCard : Claim7 := { stood := { row := topCacheUptoRow, standIns := [], harness := (true, "c89d716b9af14f953842b8d6b6fabc0529bdbaf10b57d46b6f586c4306d75f94"), looks := false }, kinds := [], alts := [], laidByText := true, laidKinds := [.data, .data, .data, .data, .pinned], laidTests := true, laidLooks := .later }
def TopCacheUptoCardSaid : Prop := Claim7.holds Tryz.pinned (.plain (OpenSpec.upto topCacheSpec)) topCacheUptoCard

/-- THE SECOND FORM's CARD OF 'aviarytop.TopSerials'. -/
def topSerialsUptoCard : Claim7 := { stood := { row := topSerialsUptoRow, standIns := [], harness := (true, "c89d716b9af14f953842b8d6b6fabc0529bdbaf10b57d46b6f586c4306d75f94"), looks := false }, kinds := [], alts := [], laidByText := true, laidKinds := [.data, .data, .data, .data, .pinned], laidTests := true, laidLooks := .later }
def TopSerialsUptoCardSaid : Prop := Claim7.holds Tryz.pinned (.plain (OpenSpec.upto topSerialsSpec)) topSerialsUptoCard
end Rows
end Go.Proofs.YthcncjimjclfpaaGreatDoor
