/-
  A disk that Append gives lies in new memory; store.extended: the walks.
-/
import Derived.Test.YtfejpbkapikdiaaGreatDoorSCAL
import Derived.Test.YtfejpbkapikdiaaGreatDoorSCAJ
import Derived.Test.YtfejpbkapikdiaaGreatDoorSCI
namespace Go.Proofs.YtfejpbkapikdiaaGreatDoor
open Go.RowKit

/-- a row at or behind block B -/
def Fresh (B : Nat) (v : Value) : Prop := ∀ b off n c, v = .slice (some ⟨b, off, none⟩) n c → B ≤ b
theorem Fresh.lower {B C : Nat} {v : Value} (h : Fresh B v) (hc : C ≤ B) : Fresh C v := fun b off n c e => Nat.le_trans hc (h b off n c e)
/-- as GivesD, and the disk lies in new memory -/
def GivesF (f : FuncId) (args : Value → Array Value) (fs d : List DF) (E : Int) : Prop := ∀ v W, DiskV W v fs → Calls Tryz.prog f (args (.agg #[v])) W fun e w' => ∃ a n c, e = .returned (.tuple #[.agg #[.slice a n c], .int .i64 E]) ∧ Hid (DiskV w' (.slice a n c) d ∧ Fresh W.heap.size (.slice a n c)) ∧ Below W.heap.size W w'
theorem GivesF.d {f : FuncId} {args : Value → Array Value} {fs d : List DF} {E : Int} (h : GivesF f args fs d E) : GivesD f args fs d E := fun v W hv => (h v W hv).mono fun _ _ ⟨a, n, c, he, hd, hb⟩ => ⟨a, n, c, he, (unhide hd).1, hb⟩
end Go.Proofs.YtfejpbkapikdiaaGreatDoor
