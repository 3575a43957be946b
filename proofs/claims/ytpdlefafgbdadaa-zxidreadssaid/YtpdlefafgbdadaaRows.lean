/-
  No cell of these rows narrows 'for every input' (looked for: loops, veiled, ifaces, maps, wideKeys, modest, calm, conditions, laid).
  DERIVED. THE GIVEN ROWS OF THIS SEAT. 3 by the template 'for every input the law returns true; each argument reads behind the call as it read before'; 0 by the template 'total and deterministic' (their statements: YtpdlefafgbdadaaTotals.lean).
  GIVEN WITH THE SEED: the statements are not yours to turn. If you find one false, say at which input.
  Laid BY PROGRAM, IN A SANDBOX (cutbox-rows.mjs): the forced cells as the released guide's own fill.sh prints them over the translation 50dcb192015359e1… (all of the seat's roots in one cut). By AI agents, Wed Nov 11 2026. No macro, syntax, notation, axiom, sorry.
-/
import Derived.Test.YtpdlefafgbdadaaChecked
import GoSem.Claim
import GoSem.ClaimJoined
import GoSem.ClaimMapViews
import Derived.JoinedTies
import Derived.KernelRfl
namespace Go.Proofs.Ytpdlefafgbdadaa
/- THE CELL 'sum', in the pinned program and in every row, IS THE sha256 OF THE DUMP (.gsa) THAT YtpdlefafgbdadaaProg.lean LOADS. Nothing in Lean hashes anything: it is a label: what it is worth is what the hold of that sum in a sandbox is worth. -/
noncomputable def Try.pinned : Pinned := { name := "ytpdlefafgbdadaa", sum := "50dcb192015359e1da15a448ba533ec09a4f2b5f73e4a904d272b93812b7f133", checked := Try.checked }
namespace Rows
def none {H : Type} : Left H := { results := [], args := [] }

/-- 'aviarylaw.ZxidMakes': WHATEVER THE INPUT: true; the input reads as it did. -/
def zxidMakesSpec : ChangeSpec := { name := "zxidMakes", fn := fun _ => fun
  | [d1, d2, d3] => { results := [.lit (.bool true)], args := [d1, d2, d3] }
  | _ => none }
def zxidMakesRow : OpenClaim := { program := "ytpdlefafgbdadaa", sum := "50dcb192015359e1da15a448ba533ec09a4f2b5f73e4a904d272b93812b7f133", func := "aviary/aviarylaw.ZxidMakes", spec := "zxidMakes", apart := false }
def ZxidMakesSaid : Prop := zxidMakesRow.holds Try.pinned (OpenSpec.ofChange zxidMakesSpec)

/-- ITS FALSE NEIGHBOUR: 'it returns false'. Refute it at one input. -/
def zxidMakesWrong : ChangeSpec := { name := "zxidMakes", fn := fun _ => fun
  | [d1, d2, d3] => { results := [.lit (.bool false)], args := [d1, d2, d3] }
  | _ => none }
def ZxidMakesWrongFalsely : Prop := zxidMakesRow.holds Try.pinned (OpenSpec.ofChange zxidMakesWrong)

/-- 'aviarylaw.ZxidReads': WHATEVER THE INPUT: true; the input reads as it did. -/
def zxidReadsSpec : ChangeSpec := { name := "zxidReads", fn := fun _ => fun
  | [d] => { results := [.lit (.bool true)], args := [d] }
  | _ => none }
def zxidReadsRow : OpenClaim := { program := "ytpdlefafgbdadaa", sum := "50dcb192015359e1da15a448ba533ec09a4f2b5f73e4a904d272b93812b7f133", func := "aviary/aviarylaw.ZxidReads", spec := "zxidReads", inPlace := ["internal/bytealg.IndexByteString", "internal/bytealg.IndexString"], recurses := true, named := ["internal/bytealg.MaxLen"], apart := false }
def ZxidReadsSaid : Prop := zxidReadsRow.holds Try.pinned (OpenSpec.ofChange zxidReadsSpec)

/-- ITS FALSE NEIGHBOUR: 'it returns false'. Refute it at one input. -/
def zxidReadsWrong : ChangeSpec := { name := "zxidReads", fn := fun _ => fun
  | [d] => { results := [.lit (.bool false)], args := [d] }
  | _ => none }
def ZxidReadsWrongFalsely : Prop := zxidReadsRow.holds Try.pinned (OpenSpec.ofChange zxidReadsWrong)

/-- 'aviarykeep.ZxidOrder': WHATEVER THE INPUT: true; the input reads as it did. -/
def zxidOrderSpec : ChangeSpec := { name := "zxidOrder", fn := fun _ => fun
  | [d1, d2, d3, d4] => { results := [.lit (.bool true)], args := [d1, d2, d3, d4] }
  | _ => none }
def zxidOrderRow : OpenClaim := { program := "ytpdlefafgbdadaa", sum := "50dcb192015359e1da15a448ba533ec09a4f2b5f73e4a904d272b93812b7f133", func := "aviary/aviarykeep.ZxidOrder", spec := "zxidOrder", apart := false }
def ZxidOrderSaid : Prop := zxidOrderRow.holds Try.pinned (OpenSpec.ofChange zxidOrderSpec)

/-- ITS FALSE NEIGHBOUR: 'it returns false'. Refute it at one input. -/
def zxidOrderWrong : ChangeSpec := { name := "zxidOrder", fn := fun _ => fun
  | [d1, d2, d3, d4] => { results := [.lit (.bool false)], args := [d1, d2, d3, d4] }
  | _ => none }
def ZxidOrderWrongFalsely : Prop := zxidOrderRow.holds Try.pinned (OpenSpec.ofChange zxidOrderWrong)

/- THE SECOND FORM. 'bulk': how many values and letters a reading holds, each counted each time it is reached (what is shared counts as often as it is met; a slice's spare places count too). A statement '..UptoSaid' is the law's where the arguments, and the package variables that the reading takes, are together of bulk at most 1048576: NARROWER than '..Said'. Prove '..Said' where nothing that the law and all that it calls make is longer than what came in: it says more and counts as full. Else prove '..UptoSaid'. A law counts once. -/
mutual
def uptoBulk {H : Type} : DataW H → Nat
  | .lit (.string bytes) => bytes.length + 1
  | .lit _ => 1
  | .nil => 1
  | .ptr d => uptoBulk d + 1
  | .slice elems spare => uptoBulkAll elems + uptoBulkAll spare + 1
  | .agg parts => uptoBulkAll parts + 1
  | .iface _ d => uptoBulk d + 1
  | .map entries => uptoBulkEntries entries + 1
  | .held _ => 1
def uptoBulkAll {H : Type} : List (DataW H) → Nat
  | [] => 0
  | d :: r => uptoBulk d + uptoBulkAll r
def uptoBulkEntries {H : Type} : List (Lit × DataW H) → Nat
  | [] => 0
  | x :: r => uptoBulkEntry x + uptoBulkEntries r
def uptoBulkEntry {H : Type} : Lit × DataW H → Nat
  | (.string bytes, d) => bytes.length + uptoBulk d + 1
  | (_, d) => uptoBulk d + 1
 end
def uptoSmall : (H : Type) → List (DataW H) → Bool := fun _ ds => decide (uptoBulkAll ds ≤ 1048576)
def OpenSpec.upto (s : _root_.Go.ChangeSpec) : _root_.Go.OpenSpec := { _root_.Go.OpenSpec.ofChange s with cond := some uptoSmall }

/-- 'aviarylaw.ZxidMakes', WHERE WHAT IT READS IS OF BULK AT MOST 1048576: true; the input reads as it did. -/
def zxidMakesUptoRow : OpenClaim := { program := "ytpdlefafgbdadaa", sum := "50dcb192015359e1da15a448ba533ec09a4f2b5f73e4a904d272b93812b7f133", func := "aviary/aviarylaw.ZxidMakes", spec := "zxidMakes", apart := false, narrowed := true }
def ZxidMakesUptoSaid : Prop := zxidMakesUptoRow.holds Try.pinned (OpenSpec.upto zxidMakesSpec)

/-- 'aviarylaw.ZxidReads', WHERE WHAT IT READS IS OF BULK AT MOST 1048576: true; the input reads as it did. -/
def zxidReadsUptoRow : OpenClaim := { program := "ytpdlefafgbdadaa", sum := "50dcb192015359e1da15a448ba533ec09a4f2b5f73e4a904d272b93812b7f133", func := "aviary/aviarylaw.ZxidReads", spec := "zxidReads", inPlace := ["internal/bytealg.IndexByteString", "internal/bytealg.IndexString"], recurses := true, named := ["internal/bytealg.MaxLen"], apart := false, narrowed := true }
def ZxidReadsUptoSaid : Prop := zxidReadsUptoRow.holds Try.pinned (OpenSpec.upto zxidReadsSpec)

/-- 'aviarykeep.ZxidOrder', WHERE WHAT IT READS IS OF BULK AT MOST 1048576: true; the input reads as it did. -/
def zxidOrderUptoRow : OpenClaim := { program := "ytpdlefafgbdadaa", sum := "50dcb192015359e1da15a448ba533ec09a4f2b5f73e4a904d272b93812b7f133", func := "aviary/aviarykeep.ZxidOrder", spec := "zxidOrder", apart := false, narrowed := true }
def ZxidOrderUptoSaid : Prop := zxidOrderUptoRow.holds Try.pinned (OpenSpec.upto zxidOrderSpec)

end Rows
end Go.Proofs.Ytpdlefafgbdadaa
