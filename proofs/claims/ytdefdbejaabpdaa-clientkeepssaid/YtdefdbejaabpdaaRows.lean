/-
  No cell of these rows narrows 'for every input' (looked for: loops, veiled, ifaces, maps, wideKeys, modest, calm, conditions, laid).
  DERIVED. THE GIVEN ROWS OF THIS SEAT. 5 by the template 'for every input the law returns true; each argument reads behind the call as it read before'; 0 by the template 'total and deterministic' (their statements: YtdefdbejaabpdaaTotals.lean).
  GIVEN WITH THE SEED: the statements are not yours to turn. If you find one false, say at which input.
  Laid BY PROGRAM, IN A SANDBOX (cutbox-rows.mjs): the forced cells as the released guide's own fill.sh prints them over the translation b87f630db9861bfe… (all of the seat's roots in one cut). By AI agents, Wed Nov 11 2026. No macro, syntax, notation, axiom, sorry.
-/
import Derived.Test.YtdefdbejaabpdaaChecked
import GoSem.Claim
import GoSem.ClaimJoined
import GoSem.ClaimMapViews
import Derived.JoinedTies
import Derived.KernelRfl
namespace Go.Proofs.Ytdefdbejaabpdaa
/- THE CELL 'sum', in the pinned program and in every row, IS THE sha256 OF THE DUMP (.gsa) THAT YtdefdbejaabpdaaProg.lean LOADS. Nothing in Lean hashes anything: it is a label: what it is worth is what the hold of that sum in a sandbox is worth. -/
noncomputable def Try.pinned : Pinned := { name := "ytdefdbejaabpdaa", sum := "b87f630db9861bfe7fae0fecc1c986c1cf6eb0173b2580a10e495b3e2136fbd6", checked := Try.checked }
namespace Rows
def none {H : Type} : Left H := { results := [], args := [] }

/-- 'aviarylaw.ClientSees': WHATEVER THE INPUT: true; the input reads as it did. -/
def clientSeesSpec : ChangeSpec := { name := "clientSees", fn := fun _ => fun
  | [d1, d2, d3] => { results := [.lit (.bool true)], args := [d1, d2, d3] }
  | _ => none }
def clientSeesRow : OpenClaim := { program := "ytdefdbejaabpdaa", sum := "b87f630db9861bfe7fae0fecc1c986c1cf6eb0173b2580a10e495b3e2136fbd6", func := "aviary/aviarylaw.ClientSees", spec := "clientSees", apart := false }
def ClientSeesSaid : Prop := clientSeesRow.holds Try.pinned (OpenSpec.ofChange clientSeesSpec)

/-- ITS FALSE NEIGHBOUR: 'it returns false'. Refute it at one input. -/
def clientSeesWrong : ChangeSpec := { name := "clientSees", fn := fun _ => fun
  | [d1, d2, d3] => { results := [.lit (.bool false)], args := [d1, d2, d3] }
  | _ => none }
def ClientSeesWrongFalsely : Prop := clientSeesRow.holds Try.pinned (OpenSpec.ofChange clientSeesWrong)

/-- 'aviarylaw.ClientKeeps': WHATEVER THE INPUT: true; the input reads as it did. -/
def clientKeepsSpec : ChangeSpec := { name := "clientKeeps", fn := fun _ => fun
  | [d1, d2, d3] => { results := [.lit (.bool true)], args := [d1, d2, d3] }
  | _ => none }
def clientKeepsRow : OpenClaim := { program := "ytdefdbejaabpdaa", sum := "b87f630db9861bfe7fae0fecc1c986c1cf6eb0173b2580a10e495b3e2136fbd6", func := "aviary/aviarylaw.ClientKeeps", spec := "clientKeeps", inPlace := ["internal/bytealg.abigen_runtime_cmpstring", "slices.overlaps[aviary/api.Entry]"], unfollowed := true, recurses := true, apart := false }
def ClientKeepsSaid : Prop := clientKeepsRow.holds Try.pinned (OpenSpec.ofChange clientKeepsSpec)

/-- ITS FALSE NEIGHBOUR: 'it returns false'. Refute it at one input. -/
def clientKeepsWrong : ChangeSpec := { name := "clientKeeps", fn := fun _ => fun
  | [d1, d2, d3] => { results := [.lit (.bool false)], args := [d1, d2, d3] }
  | _ => none }
def ClientKeepsWrongFalsely : Prop := clientKeepsRow.holds Try.pinned (OpenSpec.ofChange clientKeepsWrong)

/-- 'aviarykeep.ClientRises': WHATEVER THE INPUT: true; the input reads as it did. -/
def clientRisesSpec : ChangeSpec := { name := "clientRises", fn := fun _ => fun
  | [d1, d2] => { results := [.lit (.bool true)], args := [d1, d2] }
  | _ => none }
def clientRisesRow : OpenClaim := { program := "ytdefdbejaabpdaa", sum := "b87f630db9861bfe7fae0fecc1c986c1cf6eb0173b2580a10e495b3e2136fbd6", func := "aviary/aviarykeep.ClientRises", spec := "clientRises", apart := false }
def ClientRisesSaid : Prop := clientRisesRow.holds Try.pinned (OpenSpec.ofChange clientRisesSpec)

/-- ITS FALSE NEIGHBOUR: 'it returns false'. Refute it at one input. -/
def clientRisesWrong : ChangeSpec := { name := "clientRises", fn := fun _ => fun
  | [d1, d2] => { results := [.lit (.bool false)], args := [d1, d2] }
  | _ => none }
def ClientRisesWrongFalsely : Prop := clientRisesRow.holds Try.pinned (OpenSpec.ofChange clientRisesWrong)

/-- 'aviarykeep.ClientKept': WHATEVER THE INPUT: true; the input reads as it did. -/
def clientKeptSpec : ChangeSpec := { name := "clientKept", fn := fun _ => fun
  | [d1, d2, d3] => { results := [.lit (.bool true)], args := [d1, d2, d3] }
  | _ => none }
def clientKeptRow : OpenClaim := { program := "ytdefdbejaabpdaa", sum := "b87f630db9861bfe7fae0fecc1c986c1cf6eb0173b2580a10e495b3e2136fbd6", func := "aviary/aviarykeep.ClientKept", spec := "clientKept", inPlace := ["internal/bytealg.abigen_runtime_cmpstring", "slices.overlaps[aviary/api.Entry]"], unfollowed := true, recurses := true, apart := false }
def ClientKeptSaid : Prop := clientKeptRow.holds Try.pinned (OpenSpec.ofChange clientKeptSpec)

/-- ITS FALSE NEIGHBOUR: 'it returns false'. Refute it at one input. -/
def clientKeptWrong : ChangeSpec := { name := "clientKept", fn := fun _ => fun
  | [d1, d2, d3] => { results := [.lit (.bool false)], args := [d1, d2, d3] }
  | _ => none }
def ClientKeptWrongFalsely : Prop := clientKeptRow.holds Try.pinned (OpenSpec.ofChange clientKeptWrong)

/-- 'aviarykeep.ClientTold': WHATEVER THE INPUT: true; the input reads as it did. -/
def clientToldSpec : ChangeSpec := { name := "clientTold", fn := fun _ => fun
  | [d1, d2, d3] => { results := [.lit (.bool true)], args := [d1, d2, d3] }
  | _ => none }
def clientToldRow : OpenClaim := { program := "ytdefdbejaabpdaa", sum := "b87f630db9861bfe7fae0fecc1c986c1cf6eb0173b2580a10e495b3e2136fbd6", func := "aviary/aviarykeep.ClientTold", spec := "clientTold", inPlace := ["internal/bytealg.abigen_runtime_cmpstring", "slices.overlaps[aviary/api.Entry]"], unfollowed := true, recurses := true, apart := false }
def ClientToldSaid : Prop := clientToldRow.holds Try.pinned (OpenSpec.ofChange clientToldSpec)

/-- ITS FALSE NEIGHBOUR: 'it returns false'. Refute it at one input. -/
def clientToldWrong : ChangeSpec := { name := "clientTold", fn := fun _ => fun
  | [d1, d2, d3] => { results := [.lit (.bool false)], args := [d1, d2, d3] }
  | _ => none }
def ClientToldWrongFalsely : Prop := clientToldRow.holds Try.pinned (OpenSpec.ofChange clientToldWrong)

/- THE SECOND FORM. 'bulk': how many values and letters a reading holds, each counted each time it is reached (what is shared counts as often as it is met; a slice's spare places count too). A statement '..UptoSaid' is the law's where the arguments, and the package variables that the reading takes, are together of bulk at most 1048576: NARROWER than '..Said'. Prove '..Said' where nothing that the law and all that it calls make is longer than what came in: it says more and counts as full. Else prove '..UptoSaid'. A law counts once. -/
mutual
def uptoBulk {H : Type} : DataW H → Nat
  | .lit (.string bytes) => bytes.length + 1
  | .lit _ => 1
  | .nil => 1
  | .ptr d => uptoBulk d + 1
  | .slice elems spare => uptoBulkAll elems + uptoBulkAll spare + 1
  | .agg parts => uptoBulkAll parts + 1
  | .iface _ d => uptoBulk d + 1
  | .map entries => uptoBulkEntries entries + 1
  | .held _ => 1
def uptoBulkAll {H : Type} : List (DataW H) → Nat
  | [] => 0
  | d :: r => uptoBulk d + uptoBulkAll r
def uptoBulkEntries {H : Type} : List (Lit × DataW H) → Nat
  | [] => 0
  | x :: r => uptoBulkEntry x + uptoBulkEntries r
def uptoBulkEntry {H : Type} : Lit × DataW H → Nat
  | (.string bytes, d) => bytes.length + uptoBulk d + 1
  | (_, d) => uptoBulk d + 1
 end
def uptoSmall : (H : Type) → List (DataW H) → Bool := fun _ ds => decide (uptoBulkAll ds ≤ 1048576)
def OpenSpec.upto (s : _root_.Go.ChangeSpec) : _root_.Go.OpenSpec := { _root_.Go.OpenSpec.ofChange s with cond := some uptoSmall }

/-- 'aviarylaw.ClientSees', WHERE WHAT IT READS IS OF BULK AT MOST 1048576: true; the input reads as it did. -/
def clientSeesUptoRow : OpenClaim := { program := "ytdefdbejaabpdaa", sum := "b87f630db9861bfe7fae0fecc1c986c1cf6eb0173b2580a10e495b3e2136fbd6", func := "aviary/aviarylaw.ClientSees", spec := "clientSees", apart := false, narrowed := true }
def ClientSeesUptoSaid : Prop := clientSeesUptoRow.holds Try.pinned (OpenSpec.upto clientSeesSpec)

/-- 'aviarylaw.ClientKeeps', WHERE WHAT IT READS IS OF BULK AT MOST 1048576: true; the input reads as it did. -/
def clientKeepsUptoRow : OpenClaim := { program := "ytdefdbejaabpdaa", sum := "b87f630db9861bfe7fae0fecc1c986c1cf6eb0173b2580a10e495b3e2136fbd6", func := "aviary/aviarylaw.ClientKeeps", spec := "clientKeeps", inPlace := ["internal/bytealg.abigen_runtime_cmpstring", "slices.overlaps[aviary/api.Entry]"], unfollowed := true, recurses := true, apart := false, narrowed := true }
def ClientKeepsUptoSaid : Prop := clientKeepsUptoRow.holds Try.pinned (OpenSpec.upto clientKeepsSpec)

/-- 'aviarykeep.ClientRises', WHERE WHAT IT READS IS OF BULK AT MOST 1048576: true; the input reads as it did. -/
def clientRisesUptoRow : OpenClaim := { program := "ytdefdbejaabpdaa", sum := "b87f630db9861bfe7fae0fecc1c986c1cf6eb0173b2580a10e495b3e2136fbd6", func := "aviary/aviarykeep.ClientRises", spec := "clientRises", apart := false, narrowed := true }
def ClientRisesUptoSaid : Prop := clientRisesUptoRow.holds Try.pinned (OpenSpec.upto clientRisesSpec)

/-- 'aviarykeep.ClientKept', WHERE WHAT IT READS IS OF BULK AT MOST 1048576: true; the input reads as it did. -/
def clientKeptUptoRow : OpenClaim := { program := "ytdefdbejaabpdaa", sum := "b87f630db9861bfe7fae0fecc1c986c1cf6eb0173b2580a10e495b3e2136fbd6", func := "aviary/aviarykeep.ClientKept", spec := "clientKept", inPlace := ["internal/bytealg.abigen_runtime_cmpstring", "slices.overlaps[aviary/api.Entry]"], unfollowed := true, recurses := true, apart := false, narrowed := true }
def ClientKeptUptoSaid : Prop := clientKeptUptoRow.holds Try.pinned (OpenSpec.upto clientKeptSpec)

/-- 'aviarykeep.ClientTold', WHERE WHAT IT READS IS OF BULK AT MOST 1048576: true; the input reads as it did. -/
def clientToldUptoRow : OpenClaim := { program := "ytdefdbejaabpdaa", sum := "b87f630db9861bfe7fae0fecc1c986c1cf6eb0173b2580a10e495b3e2136fbd6", func := "aviary/aviarykeep.ClientTold", spec := "clientTold", inPlace := ["internal/bytealg.abigen_runtime_cmpstring", "slices.overlaps[aviary/api.Entry]"], unfollowed := true, recurses := true, apart := false, narrowed := true }
def ClientToldUptoSaid : Prop := clientToldUptoRow.holds Try.pinned (OpenSpec.upto clientToldSpec)

end Rows
end Go.Proofs.Ytdefdbejaabpdaa
