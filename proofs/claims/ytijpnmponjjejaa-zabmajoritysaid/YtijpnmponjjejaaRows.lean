/-
  No cell of these rows narrows 'for every input' (looked for: loops, veiled, ifaces, maps, wideKeys, modest, calm, conditions, laid).
  DERIVED. THE GIVEN ROWS OF THIS SEAT. 6 by the template 'for every input the law returns true; each argument reads behind the call as it read before'; 0 by the template 'total and deterministic' (their statements: YtijpnmponjjejaaTotals.lean).
  GIVEN WITH THE SEED: the statements are not yours to turn. If you find one false, say at which input.
  Laid BY PROGRAM, IN A SANDBOX (cutbox-rows.mjs): the forced cells as the released guide's own fill.sh prints them over the translation 692fea7f8455f40f… (all of the seat's roots in one cut). By AI agents, Wed Nov 11 2026. No macro, syntax, notation, axiom, sorry.
-/
import Derived.Test.YtijpnmponjjejaaChecked
import GoSem.Claim
import GoSem.ClaimJoined
import GoSem.ClaimMapViews
import Derived.JoinedTies
import Derived.KernelRfl
namespace Go.Proofs.Ytijpnmponjjejaa
/- THE CELL 'sum', in the pinned program and in every row, IS THE sha256 OF THE DUMP (.gsa) THAT YtijpnmponjjejaaProg.lean LOADS. Nothing in Lean hashes anything: it is a label: what it is worth is what the hold of that sum in a sandbox is worth. -/
noncomputable def Try.pinned : Pinned := { name := "ytijpnmponjjejaa", sum := "692fea7f8455f40f42957371f52b09e4757eccdd4a532a23bc2a099dd1150ac2", checked := Try.checked }
namespace Rows
def none {H : Type} : Left H := { results := [], args := [] }

/-- 'aviarylaw.ZabElects': WHATEVER THE INPUT: true; the input reads as it did. -/
def zabElectsSpec : ChangeSpec := { name := "zabElects", fn := fun _ => fun
  | [d] => { results := [.lit (.bool true)], args := [d] }
  | _ => none }
def zabElectsRow : OpenClaim := { program := "ytijpnmponjjejaa", sum := "692fea7f8455f40f42957371f52b09e4757eccdd4a532a23bc2a099dd1150ac2", func := "aviary/aviarylaw.ZabElects", spec := "zabElects", unfollowed := true, recurses := true, apart := false }
def ZabElectsSaid : Prop := zabElectsRow.holds Try.pinned (OpenSpec.ofChange zabElectsSpec)

/-- ITS FALSE NEIGHBOUR: 'it returns false'. Refute it at one input. -/
def zabElectsWrong : ChangeSpec := { name := "zabElects", fn := fun _ => fun
  | [d] => { results := [.lit (.bool false)], args := [d] }
  | _ => none }
def ZabElectsWrongFalsely : Prop := zabElectsRow.holds Try.pinned (OpenSpec.ofChange zabElectsWrong)

/-- 'aviarylaw.ZabNexts': WHATEVER THE INPUT: true; the input reads as it did. -/
def zabNextsSpec : ChangeSpec := { name := "zabNexts", fn := fun _ => fun
  | [d] => { results := [.lit (.bool true)], args := [d] }
  | _ => none }
def zabNextsRow : OpenClaim := { program := "ytijpnmponjjejaa", sum := "692fea7f8455f40f42957371f52b09e4757eccdd4a532a23bc2a099dd1150ac2", func := "aviary/aviarylaw.ZabNexts", spec := "zabNexts", apart := false }
def ZabNextsSaid : Prop := zabNextsRow.holds Try.pinned (OpenSpec.ofChange zabNextsSpec)

/-- ITS FALSE NEIGHBOUR: 'it returns false'. Refute it at one input. -/
def zabNextsWrong : ChangeSpec := { name := "zabNexts", fn := fun _ => fun
  | [d] => { results := [.lit (.bool false)], args := [d] }
  | _ => none }
def ZabNextsWrongFalsely : Prop := zabNextsRow.holds Try.pinned (OpenSpec.ofChange zabNextsWrong)

/-- 'aviarylaw.ZabCommits': WHATEVER THE INPUT: true; the input reads as it did. -/
def zabCommitsSpec : ChangeSpec := { name := "zabCommits", fn := fun _ => fun
  | [d] => { results := [.lit (.bool true)], args := [d] }
  | _ => none }
def zabCommitsRow : OpenClaim := { program := "ytijpnmponjjejaa", sum := "692fea7f8455f40f42957371f52b09e4757eccdd4a532a23bc2a099dd1150ac2", func := "aviary/aviarylaw.ZabCommits", spec := "zabCommits", unfollowed := true, recurses := true, apart := false }
def ZabCommitsSaid : Prop := zabCommitsRow.holds Try.pinned (OpenSpec.ofChange zabCommitsSpec)

/-- ITS FALSE NEIGHBOUR: 'it returns false'. Refute it at one input. -/
def zabCommitsWrong : ChangeSpec := { name := "zabCommits", fn := fun _ => fun
  | [d] => { results := [.lit (.bool false)], args := [d] }
  | _ => none }
def ZabCommitsWrongFalsely : Prop := zabCommitsRow.holds Try.pinned (OpenSpec.ofChange zabCommitsWrong)

/-- 'aviarykeep.ZabLeads': WHATEVER THE INPUT: true; the input reads as it did. -/
def zabLeadsSpec : ChangeSpec := { name := "zabLeads", fn := fun _ => fun
  | [d1, d2] => { results := [.lit (.bool true)], args := [d1, d2] }
  | _ => none }
def zabLeadsRow : OpenClaim := { program := "ytijpnmponjjejaa", sum := "692fea7f8455f40f42957371f52b09e4757eccdd4a532a23bc2a099dd1150ac2", func := "aviary/aviarykeep.ZabLeads", spec := "zabLeads", unfollowed := true, recurses := true, apart := false }
def ZabLeadsSaid : Prop := zabLeadsRow.holds Try.pinned (OpenSpec.ofChange zabLeadsSpec)

/-- ITS FALSE NEIGHBOUR: 'it returns false'. Refute it at one input. -/
def zabLeadsWrong : ChangeSpec := { name := "zabLeads", fn := fun _ => fun
  | [d1, d2] => { results := [.lit (.bool false)], args := [d1, d2] }
  | _ => none }
def ZabLeadsWrongFalsely : Prop := zabLeadsRow.holds Try.pinned (OpenSpec.ofChange zabLeadsWrong)

/-- 'aviarykeep.ZabSteps': WHATEVER THE INPUT: true; the input reads as it did. -/
def zabStepsSpec : ChangeSpec := { name := "zabSteps", fn := fun _ => fun
  | [d] => { results := [.lit (.bool true)], args := [d] }
  | _ => none }
def zabStepsRow : OpenClaim := { program := "ytijpnmponjjejaa", sum := "692fea7f8455f40f42957371f52b09e4757eccdd4a532a23bc2a099dd1150ac2", func := "aviary/aviarykeep.ZabSteps", spec := "zabSteps", unfollowed := true, recurses := true, apart := false }
def ZabStepsSaid : Prop := zabStepsRow.holds Try.pinned (OpenSpec.ofChange zabStepsSpec)

/-- ITS FALSE NEIGHBOUR: 'it returns false'. Refute it at one input. -/
def zabStepsWrong : ChangeSpec := { name := "zabSteps", fn := fun _ => fun
  | [d] => { results := [.lit (.bool false)], args := [d] }
  | _ => none }
def ZabStepsWrongFalsely : Prop := zabStepsRow.holds Try.pinned (OpenSpec.ofChange zabStepsWrong)

/-- 'aviarykeep.ZabMajority': WHATEVER THE INPUT: true; the input reads as it did. -/
def zabMajoritySpec : ChangeSpec := { name := "zabMajority", fn := fun _ => fun
  | [d] => { results := [.lit (.bool true)], args := [d] }
  | _ => none }
def zabMajorityRow : OpenClaim := { program := "ytijpnmponjjejaa", sum := "692fea7f8455f40f42957371f52b09e4757eccdd4a532a23bc2a099dd1150ac2", func := "aviary/aviarykeep.ZabMajority", spec := "zabMajority", unfollowed := true, recurses := true, apart := false }
def ZabMajoritySaid : Prop := zabMajorityRow.holds Try.pinned (OpenSpec.ofChange zabMajoritySpec)

/-- ITS FALSE NEIGHBOUR: 'it returns false'. Refute it at one input. -/
def zabMajorityWrong : ChangeSpec := { name := "zabMajority", fn := fun _ => fun
  | [d] => { results := [.lit (.bool false)], args := [d] }
  | _ => none }
def ZabMajorityWrongFalsely : Prop := zabMajorityRow.holds Try.pinned (OpenSpec.ofChange zabMajorityWrong)

/- THE SECOND FORM. 'bulk': how many values and letters a reading holds, each counted each time it is reached (what is shared counts as often as it is met; a slice's spare places count too). A statement '..UptoSaid' is the law's where the arguments, and the package variables that the reading takes, are together of bulk at most 1048576: NARROWER than '..Said'. Prove '..Said' where nothing that the law and all that it calls make is longer than what came in: it says more and counts as full. Else prove '..UptoSaid'. A law counts once. -/
mutual
def uptoBulk {H : Type} : DataW H → Nat
  | .lit (.string bytes) => bytes.length + 1
  | .lit _ => 1
  | .nil => 1
  | .ptr d => uptoBulk d + 1
  | .slice elems spare => uptoBulkAll elems + uptoBulkAll spare + 1
  | .agg parts => uptoBulkAll parts + 1
  | .iface _ d => uptoBulk d + 1
  | .map entries => uptoBulkEntries entries + 1
  | .held _ => 1
def uptoBulkAll {H : Type} : List (DataW H) → Nat
  | [] => 0
  | d :: r => uptoBulk d + uptoBulkAll r
def uptoBulkEntries {H : Type} : List (Lit × DataW H) → Nat
  | [] => 0
  | x :: r => uptoBulkEntry x + uptoBulkEntries r
def uptoBulkEntry {H : Type} : Lit × DataW H → Nat
  | (.string bytes, d) => bytes.length + uptoBulk d + 1
  | (_, d) => uptoBulk d + 1
 end
def uptoSmall : (H : Type) → List (DataW H) → Bool := fun _ ds => decide (uptoBulkAll ds ≤ 1048576)
def OpenSpec.upto (s : _root_.Go.ChangeSpec) : _root_.Go.OpenSpec := { _root_.Go.OpenSpec.ofChange s with cond := some uptoSmall }

/-- 'aviarylaw.ZabElects', WHERE WHAT IT READS IS OF BULK AT MOST 1048576: true; the input reads as it did. -/
def zabElectsUptoRow : OpenClaim := { program := "ytijpnmponjjejaa", sum := "692fea7f8455f40f42957371f52b09e4757eccdd4a532a23bc2a099dd1150ac2", func := "aviary/aviarylaw.ZabElects", spec := "zabElects", unfollowed := true, recurses := true, apart := false, narrowed := true }
def ZabElectsUptoSaid : Prop := zabElectsUptoRow.holds Try.pinned (OpenSpec.upto zabElectsSpec)

/-- 'aviarylaw.ZabNexts', WHERE WHAT IT READS IS OF BULK AT MOST 1048576: true; the input reads as it did. -/
def zabNextsUptoRow : OpenClaim := { program := "ytijpnmponjjejaa", sum := "692fea7f8455f40f42957371f52b09e4757eccdd4a532a23bc2a099dd1150ac2", func := "aviary/aviarylaw.ZabNexts", spec := "zabNexts", apart := false, narrowed := true }
def ZabNextsUptoSaid : Prop := zabNextsUptoRow.holds Try.pinned (OpenSpec.upto zabNextsSpec)

/-- 'aviarylaw.ZabCommits', WHERE WHAT IT READS IS OF BULK AT MOST 1048576: true; the input reads as it did. -/
def zabCommitsUptoRow : OpenClaim := { program := "ytijpnmponjjejaa", sum := "692fea7f8455f40f42957371f52b09e4757eccdd4a532a23bc2a099dd1150ac2", func := "aviary/aviarylaw.ZabCommits", spec := "zabCommits", unfollowed := true, recurses := true, apart := false, narrowed := true }
def ZabCommitsUptoSaid : Prop := zabCommitsUptoRow.holds Try.pinned (OpenSpec.upto zabCommitsSpec)

/-- 'aviarykeep.ZabLeads', WHERE WHAT IT READS IS OF BULK AT MOST 1048576: true; the input reads as it did. -/
def zabLeadsUptoRow : OpenClaim := { program := "ytijpnmponjjejaa", sum := "692fea7f8455f40f42957371f52b09e4757eccdd4a532a23bc2a099dd1150ac2", func := "aviary/aviarykeep.ZabLeads", spec := "zabLeads", unfollowed := true, recurses := true, apart := false, narrowed := true }
def ZabLeadsUptoSaid : Prop := zabLeadsUptoRow.holds Try.pinned (OpenSpec.upto zabLeadsSpec)

/-- 'aviarykeep.ZabSteps', WHERE WHAT IT READS IS OF BULK AT MOST 1048576: true; the input reads as it did. -/
def zabStepsUptoRow : OpenClaim := { program := "ytijpnmponjjejaa", sum := "692fea7f8455f40f42957371f52b09e4757eccdd4a532a23bc2a099dd1150ac2", func := "aviary/aviarykeep.ZabSteps", spec := "zabSteps", unfollowed := true, recurses := true, apart := false, narrowed := true }
def ZabStepsUptoSaid : Prop := zabStepsUptoRow.holds Try.pinned (OpenSpec.upto zabStepsSpec)

/-- 'aviarykeep.ZabMajority', WHERE WHAT IT READS IS OF BULK AT MOST 1048576: true; the input reads as it did. -/
def zabMajorityUptoRow : OpenClaim := { program := "ytijpnmponjjejaa", sum := "692fea7f8455f40f42957371f52b09e4757eccdd4a532a23bc2a099dd1150ac2", func := "aviary/aviarykeep.ZabMajority", spec := "zabMajority", unfollowed := true, recurses := true, apart := false, narrowed := true }
def ZabMajorityUptoSaid : Prop := zabMajorityUptoRow.holds Try.pinned (OpenSpec.upto zabMajoritySpec)

end Rows
end Go.Proofs.Ytijpnmponjjejaa
