/-
  No cell of these rows narrows 'for every input' (looked for: loops, veiled, ifaces, maps, wideKeys, modest, calm, conditions, laid).
  DERIVED. THE GIVEN ROWS OF THIS SEAT. 4 by the template 'for every input the law returns true; each argument reads behind the call as it read before'; 0 by the template 'total and deterministic' (their statements: YtppmkgehdblbdaaTotals.lean).
  GIVEN WITH THE SEED: the statements are not yours to turn. If you find one false, say at which input.
  Laid BY PROGRAM, IN A SANDBOX (cutbox-rows.mjs): the forced cells as the released guide's own fill.sh prints them over the translation ac1ad60496771d4d… (all of the seat's roots in one cut). By AI agents, Wed Nov 11 2026. No macro, syntax, notation, axiom, sorry.
-/
import Derived.Test.YtppmkgehdblbdaaChecked
import GoSem.Claim
import GoSem.ClaimJoined
import GoSem.ClaimMapViews
import Derived.JoinedTies
import Derived.KernelRfl
namespace Go.Proofs.Ytppmkgehdblbdaa
/- THE CELL 'sum', in the pinned program and in every row, IS THE sha256 OF THE DUMP (.gsa) THAT YtppmkgehdblbdaaProg.lean LOADS. Nothing in Lean hashes anything: it is a label: what it is worth is what the hold of that sum in a sandbox is worth. -/
noncomputable def Try.pinned : Pinned := { name := "ytppmkgehdblbdaa", sum := "ac1ad60496771d4d7025a29388785c2c5d2135c2973ec961ed1a15f825b6453b", checked := Try.checked }
namespace Rows
def none {H : Type} : Left H := { results := [], args := [] }

/-- 'aviarylaw.WatchFires': WHATEVER THE INPUT: true; the input reads as it did. -/
def watchFiresSpec : ChangeSpec := { name := "watchFires", fn := fun _ => fun
  | [d1, d2] => { results := [.lit (.bool true)], args := [d1, d2] }
  | _ => none }
def watchFiresRow : OpenClaim := { program := "ytppmkgehdblbdaa", sum := "ac1ad60496771d4d7025a29388785c2c5d2135c2973ec961ed1a15f825b6453b", func := "aviary/aviarylaw.WatchFires", spec := "watchFires", unfollowed := true, recurses := true, apart := false }
def WatchFiresSaid : Prop := watchFiresRow.holds Try.pinned (OpenSpec.ofChange watchFiresSpec)

/-- ITS FALSE NEIGHBOUR: 'it returns false'. Refute it at one input. -/
def watchFiresWrong : ChangeSpec := { name := "watchFires", fn := fun _ => fun
  | [d1, d2] => { results := [.lit (.bool false)], args := [d1, d2] }
  | _ => none }
def WatchFiresWrongFalsely : Prop := watchFiresRow.holds Try.pinned (OpenSpec.ofChange watchFiresWrong)

/-- 'aviarykeep.WatchOnce': WHATEVER THE INPUT: true; the input reads as it did. -/
def watchOnceSpec : ChangeSpec := { name := "watchOnce", fn := fun _ => fun
  | [d1, d2] => { results := [.lit (.bool true)], args := [d1, d2] }
  | _ => none }
def watchOnceRow : OpenClaim := { program := "ytppmkgehdblbdaa", sum := "ac1ad60496771d4d7025a29388785c2c5d2135c2973ec961ed1a15f825b6453b", func := "aviary/aviarykeep.WatchOnce", spec := "watchOnce", unfollowed := true, recurses := true, apart := false }
def WatchOnceSaid : Prop := watchOnceRow.holds Try.pinned (OpenSpec.ofChange watchOnceSpec)

/-- ITS FALSE NEIGHBOUR: 'it returns false'. Refute it at one input. -/
def watchOnceWrong : ChangeSpec := { name := "watchOnce", fn := fun _ => fun
  | [d1, d2] => { results := [.lit (.bool false)], args := [d1, d2] }
  | _ => none }
def WatchOnceWrongFalsely : Prop := watchOnceRow.holds Try.pinned (OpenSpec.ofChange watchOnceWrong)

/-- 'aviarykeep.WatchParts': WHATEVER THE INPUT: true; the input reads as it did. -/
def watchPartsSpec : ChangeSpec := { name := "watchParts", fn := fun _ => fun
  | [d1, d2, d3] => { results := [.lit (.bool true)], args := [d1, d2, d3] }
  | _ => none }
def watchPartsRow : OpenClaim := { program := "ytppmkgehdblbdaa", sum := "ac1ad60496771d4d7025a29388785c2c5d2135c2973ec961ed1a15f825b6453b", func := "aviary/aviarykeep.WatchParts", spec := "watchParts", unfollowed := true, recurses := true, apart := false }
def WatchPartsSaid : Prop := watchPartsRow.holds Try.pinned (OpenSpec.ofChange watchPartsSpec)

/-- ITS FALSE NEIGHBOUR: 'it returns false'. Refute it at one input. -/
def watchPartsWrong : ChangeSpec := { name := "watchParts", fn := fun _ => fun
  | [d1, d2, d3] => { results := [.lit (.bool false)], args := [d1, d2, d3] }
  | _ => none }
def WatchPartsWrongFalsely : Prop := watchPartsRow.holds Try.pinned (OpenSpec.ofChange watchPartsWrong)

/-- 'aviarykeep.WatchDropped': WHATEVER THE INPUT: true; the input reads as it did. -/
def watchDroppedSpec : ChangeSpec := { name := "watchDropped", fn := fun _ => fun
  | [d1, d2] => { results := [.lit (.bool true)], args := [d1, d2] }
  | _ => none }
def watchDroppedRow : OpenClaim := { program := "ytppmkgehdblbdaa", sum := "ac1ad60496771d4d7025a29388785c2c5d2135c2973ec961ed1a15f825b6453b", func := "aviary/aviarykeep.WatchDropped", spec := "watchDropped", unfollowed := true, recurses := true, apart := false }
def WatchDroppedSaid : Prop := watchDroppedRow.holds Try.pinned (OpenSpec.ofChange watchDroppedSpec)

/-- ITS FALSE NEIGHBOUR: 'it returns false'. Refute it at one input. -/
def watchDroppedWrong : ChangeSpec := { name := "watchDropped", fn := fun _ => fun
  | [d1, d2] => { results := [.lit (.bool false)], args := [d1, d2] }
  | _ => none }
def WatchDroppedWrongFalsely : Prop := watchDroppedRow.holds Try.pinned (OpenSpec.ofChange watchDroppedWrong)

/- THE SECOND FORM. 'bulk': how many values and letters a reading holds, each counted each time it is reached (what is shared counts as often as it is met; a slice's spare places count too). A statement '..UptoSaid' is the law's where the arguments, and the package variables that the reading takes, are together of bulk at most 1048576: NARROWER than '..Said'. Prove '..Said' where nothing that the law and all that it calls make is longer than what came in: it says more and counts as full. Else prove '..UptoSaid'. A law counts once. -/
mutual
def uptoBulk {H : Type} : DataW H → Nat
  | .lit (.string bytes) => bytes.length + 1
  | .lit _ => 1
  | .nil => 1
  | .ptr d => uptoBulk d + 1
  | .slice elems spare => uptoBulkAll elems + uptoBulkAll spare + 1
  | .agg parts => uptoBulkAll parts + 1
  | .iface _ d => uptoBulk d + 1
  | .map entries => uptoBulkEntries entries + 1
  | .held _ => 1
def uptoBulkAll {H : Type} : List (DataW H) → Nat
  | [] => 0
  | d :: r => uptoBulk d + uptoBulkAll r
def uptoBulkEntries {H : Type} : List (Lit × DataW H) → Nat
  | [] => 0
  | x :: r => uptoBulkEntry x + uptoBulkEntries r
def uptoBulkEntry {H : Type} : Lit × DataW H → Nat
  | (.string bytes, d) => bytes.length + uptoBulk d + 1
  | (_, d) => uptoBulk d + 1
 end
def uptoSmall : (H : Type) → List (DataW H) → Bool := fun _ ds => decide (uptoBulkAll ds ≤ 1048576)
def OpenSpec.upto (s : _root_.Go.ChangeSpec) : _root_.Go.OpenSpec := { _root_.Go.OpenSpec.ofChange s with cond := some uptoSmall }

/-- 'aviarylaw.WatchFires', WHERE WHAT IT READS IS OF BULK AT MOST 1048576: true; the input reads as it did. -/
def watchFiresUptoRow : OpenClaim := { program := "ytppmkgehdblbdaa", sum := "ac1ad60496771d4d7025a29388785c2c5d2135c2973ec961ed1a15f825b6453b", func := "aviary/aviarylaw.WatchFires", spec := "watchFires", unfollowed := true, recurses := true, apart := false, narrowed := true }
def WatchFiresUptoSaid : Prop := watchFiresUptoRow.holds Try.pinned (OpenSpec.upto watchFiresSpec)

/-- 'aviarykeep.WatchOnce', WHERE WHAT IT READS IS OF BULK AT MOST 1048576: true; the input reads as it did. -/
def watchOnceUptoRow : OpenClaim := { program := "ytppmkgehdblbdaa", sum := "ac1ad60496771d4d7025a29388785c2c5d2135c2973ec961ed1a15f825b6453b", func := "aviary/aviarykeep.WatchOnce", spec := "watchOnce", unfollowed := true, recurses := true, apart := false, narrowed := true }
def WatchOnceUptoSaid : Prop := watchOnceUptoRow.holds Try.pinned (OpenSpec.upto watchOnceSpec)

/-- 'aviarykeep.WatchParts', WHERE WHAT IT READS IS OF BULK AT MOST 1048576: true; the input reads as it did. -/
def watchPartsUptoRow : OpenClaim := { program := "ytppmkgehdblbdaa", sum := "ac1ad60496771d4d7025a29388785c2c5d2135c2973ec961ed1a15f825b6453b", func := "aviary/aviarykeep.WatchParts", spec := "watchParts", unfollowed := true, recurses := true, apart := false, narrowed := true }
def WatchPartsUptoSaid : Prop := watchPartsUptoRow.holds Try.pinned (OpenSpec.upto watchPartsSpec)

/-- 'aviarykeep.WatchDropped', WHERE WHAT IT READS IS OF BULK AT MOST 1048576: true; the input reads as it did. -/
def watchDroppedUptoRow : OpenClaim := { program := "ytppmkgehdblbdaa", sum := "ac1ad60496771d4d7025a29388785c2c5d2135c2973ec961ed1a15f825b6453b", func := "aviary/aviarykeep.WatchDropped", spec := "watchDropped", unfollowed := true, recurses := true, apart := false, narrowed := true }
def WatchDroppedUptoSaid : Prop := watchDroppedUptoRow.holds Try.pinned (OpenSpec.upto watchDroppedSpec)

end Rows
end Go.Proofs.Ytppmkgehdblbdaa
