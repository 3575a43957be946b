/-
  Runs of cells stored into a row of the call's own, whatever its elements are; copies of runs.
  What slices.Delete and slices.Insert of one answer, into a row of the call's own of nodes: the walks.
  What slices.Delete and slices.Insert of one answer, into a row of the call's own of numbers: the walks.
  A tree under change: what tree.copied and growth's tell and parentChanges do: the walks.
  A tree under change: how a growth lies in memory, which blocks a step may touch; what tell and parentChanges do: the walks.
  What growth's parentChanges does: the walks.
  What growth's remove does: the walks.
-/
import Derived.Test.YtmifdieofccjaaaDoorMD
import Derived.Laws.IdiomCopy
import Derived.Lib.AppendZeros
import Derived.Lib.JoinLaws
import Derived.Lib.SliceRun
import Derived.Lib.QuietBelow
import Derived.Deep.RegionHeld3
import Derived.BigQuiet
import Derived.Deep.RegionLaw
import Derived.Lib.AppendZerosOnto
import Derived.Lib.Overlaps
import Derived.Laws.Externs
import Derived.Maps.AppendAt
import Derived.Test.YtmifdieofccjaaaDoorMC
import Derived.Test.YtmifdieofccjaaaDoorMB
namespace Go.Proofs.YtmifdieofccjaaaDoor
open Go.RowKit

theorem cellsN_length (ns : List Nd) : (cellsL ns).length = ns.length * 9 := cellsL_length ns
theorem OwnR.spliceN {W : World} {g cap : Nat} {pre tl : List Nd} (h : OwnR W g cap (pre ++ tl)) (new : List Nd) (hfit : pre.length + new.length ≤ cap) : OwnR (W.setCells g (pre.length * 9) (cellsL new)) g cap (pre ++ new) := h.splice new hfit
theorem OwnR.spareN {W : World} {g cap : Nat} {fs : List Nd} (h : OwnR W g cap fs) (vs : List Value) (o : Nat) (ho : fs.length * 9 ≤ o) (hfit : o + vs.length ≤ cap * 9) : OwnR (W.setCells g o vs) g cap fs := h.spare vs o ho hfit
theorem OwnR.swapN {W : World} {g cap : Nat} {A B : List Nd} {y : Nd} (h : OwnR W g cap (A ++ y :: B)) (x : Nd) : OwnR (W.setCells g (A.length * 9) (ncells x)) g cap (A ++ x :: B) := h.swap1 x
theorem OwnR.someN {W : World} {g cap : Nat} {fs : List Nd} (h : OwnR W g cap fs) {j : Nat} (hj : j < cap * 9) : (W.cell? ⟨g, j, none⟩).isSome = true := h.some hj
theorem OwnR.spliceI {W : World} {g cap : Nat} {pre tl : List Int} (h : OwnR W g cap (pre ++ tl)) (new : List Int) (hfit : pre.length + new.length ≤ cap) : OwnR (W.setCells g pre.length (cellsL new)) g cap (pre ++ new) := by
  have := h.splice new hfit
  rwa [show pre.length * Lay.k Int = pre.length from Nat.mul_one _] at this
theorem OwnR.spareI {W : World} {g cap : Nat} {fs : List Int} (h : OwnR W g cap fs) (vs : List Value) (o : Nat) (ho : fs.length ≤ o) (hfit : o + vs.length ≤ cap) : OwnR (W.setCells g o vs) g cap fs :=
  h.spare vs o (by rw [show fs.length * Lay.k Int = fs.length from Nat.mul_one _]; exact ho) (by rw [show cap * Lay.k Int = cap from Nat.mul_one _]; exact hfit)
theorem OwnR.swapI {W : World} {g cap : Nat} {A B : List Int} {y : Int} (h : OwnR W g cap (A ++ y :: B)) (x : Int) : OwnR (W.setCells g A.length [.int .i64 x]) g cap (A ++ x :: B) := by
  have := h.swap1 x
  rwa [show A.length * Lay.k Int = A.length from Nat.mul_one _] at this
theorem OwnR.someI {W : World} {g cap : Nat} {fs : List Int} (h : OwnR W g cap fs) {j : Nat} (hj : j < cap) : (W.cell? ⟨g, j, none⟩).isSome = true := h.some (by rw [show cap * Lay.k Int = cap from Nat.mul_one _]; exact hj)
theorem wp_copy_runN (w : World) {o : Oper} {a : Act} {K : Act → World → Prop} {Q : Exit → Act → World → Prop} (d s : Operand) (t t' : TypeId)
    (ho : o.op = .call { callee := .builtin .copy, args := #[d, s], argTypes := #[t, t'] }) (v u : Value) (hd : a.eval d = v) (hs : a.eval s = u) {v' : Value} {w' : World}
    (hr : (Builtin.copy_ #[t, t'] o.type #[v, u]).run Tryd.prog w = .ok v' w') (h : K (a.put o.dst v') w') : o.wp Tryd.prog a w K Q := by
  unfold Oper.wp execOp
  simp only [ho, resolve, invoke, builtin, Sem.run_bind, Sem.run_pure, Result.andThen_ok, List.map_toArray, List.map_cons, List.map_nil, hd, hs, hr]
  exact h
theorem wpList_copy_runN (w : World) {ops : Array Oper} {rest : List Oper} {o : Oper} {a : Act} {Q : Exit → Act → World → Prop} (hgd : o.guard = none) (d s : Operand) (t t' : TypeId)
    (ho : o.op = .call { callee := .builtin .copy, args := #[d, s], argTypes := #[t, t'] }) (v u : Value) (hd : a.eval d = v) (hs : a.eval s = u) {v' : Value} {w' : World}
    (hr : (Builtin.copy_ #[t, t'] o.type #[v, u]).run Tryd.prog w = .ok v' w') (h : wpList Tryd.prog ops Q rest (a.put o.dst v') w') : wpList Tryd.prog ops Q (o :: rest) a w :=
  wpList_plain hgd fun _ hK => wp_copy_runN w d s t t' ho v u hd hs hr (hK _ _ h)
theorem step_copy_runN {ops : Array Oper} {o : Oper} {a : Act} {w : World} {K : Act → World → Prop} {Q : Exit → Act → World → Prop} {E : Prop}
    (hg : o.guard = none) (d x : Operand) (dT sT : TypeId) (hop : o.op = Op.call { callee := Callee.builtin Builtin.copy, args := #[d, x], argTypes := #[dT, sT] })
    (v u : Value) (hd : a.eval d = v) (hx : a.eval x = u) {v' : Value} {w' : World} (hr : (Builtin.copy_ #[dT, sT] o.type #[v, u]).run Tryd.prog w = .ok v' w') (hK : K (a.put o.dst v') w') :
    if Region.wanted o (yielded ops a.tmps) = true then Oper.wp Tryd.prog o a w K Q else E := by
  have hw : Region.wanted o (yielded ops a.tmps) = true := by simp [Region.wanted, hg]
  rw [if_pos hw]
  unfold Oper.wp
  simp [execOp, hop, resolve, invoke, builtin, hd, hx, hr, Result.andThen]
  exact hK


end Go.Proofs.YtmifdieofccjaaaDoor

namespace Go.Proofs.YtmifdieofccjaaaDoor
open Go.RowKit

theorem ninfo0 : (Tryd.prog.info? 47).map (fun i => (i.zero, i.size, i.bytes)) = some (some (.agg #[.string ⟨#[]⟩, .string ⟨#[]⟩, .int .i64 0, .int .i64 0, .int .i64 0, .int .i64 0, .int .i64 0, .int .i64 0, .int .i64 0]), 9, 88) := by kernel_rfl
theorem ninfo : ∃ i0, Tryd.prog.info? 47 = some i0 ∧ i0.zero = some (.agg #[.string ⟨#[]⟩, .string ⟨#[]⟩, .int .i64 0, .int .i64 0, .int .i64 0, .int .i64 0, .int .i64 0, .int .i64 0, .int .i64 0]) ∧ i0.size = 9 ∧ i0.bytes = 88 := by
  obtain ⟨i0, h, e⟩ := Option.map_eq_some_iff.1 ninfo0
  simp only [Prod.mk.injEq] at e
  exact ⟨i0, h, e⟩

def nblank : List Value := [.string ⟨#[]⟩, .string ⟨#[]⟩, .int .i64 0, .int .i64 0, .int .i64 0, .int .i64 0, .int .i64 0, .int .i64 0, .int .i64 0]
set_option maxRecDepth 20000 in
theorem nclear1 (w : World) (ty : TypeId) (b o c : Nat) (hc : ∀ j, j < 9 → (w.cell? ⟨b, o + j, none⟩).isSome = true) (hf : ∀ j, j < 9 → w.frozen? ⟨b, o + j, none⟩ = false) :
    (Builtin.clear_ #[22] ty #[.slice (some ⟨b, o, none⟩) 1 c]).run Tryd.prog w = .ok (.tuple #[]) (w.setCells b o nblank) := by
  have hzc : (Builtin.zeroCells (Value.agg #[.string ⟨#[]⟩, .string ⟨#[]⟩, .int .i64 0, .int .i64 0, .int .i64 0, .int .i64 0, .int .i64 0, .int .i64 0, .int .i64 0]).cells 1).toList = nblank := by kernel_rfl
  have hst := run_storeCells_cells (P := Tryd.prog) b o nblank 0 w (by simpa [nblank] using hc) (by simpa [nblank] using hf) (by simp [nblank, Value.oneCell'])
  simp only [Nat.add_zero] at hst
  simp [Builtin.clear_, run_underlying Tryd.underlying22, hzc, hst]

theorem ncopy3 (w : World) (ty : TypeId) (b o dLen dCap : Nat) (a : Addr) (sLen sCap : Nat) (cs : List Value) (hn : cs.length = Nat.min sLen dLen * 9)
    (hsrc : ∀ j v, cs[j]? = some v → w.cell? (a.add j) = some v) (hc : ∀ j, j < cs.length → (w.cell? ⟨b, o + j, none⟩).isSome = true) (hf : ∀ j, j < cs.length → w.frozen? ⟨b, o + j, none⟩ = false) (h1 : ∀ v ∈ cs, v.oneCell' = true) :
    (Builtin.copy_ #[22, 22] ty #[.slice (some ⟨b, o, none⟩) dLen dCap, .slice (some a) sLen sCap]).run Tryd.prog w = .ok (goInt (Nat.min sLen dLen)) (w.setCells b o cs) := by
  have hl := run_loadCells_list (P := Tryd.prog) w a cs hsrc
  have hst := run_storeCells_cells (P := Tryd.prog) b o cs 0 w (by simpa using hc) (by simpa using hf) h1
  obtain ⟨i0, hi0, hz0, hz1, hz2⟩ := ninfo
  simp [Builtin.copy_, run_underlying Tryd.underlying22, Builtin.lenOf, Builtin.firstCells, sizeOf, typeInfo, hi0, hz1, ← hn, hl, hst]

theorem nzeros (k : Nat) : (Builtin.zeroCells (Value.agg #[.string ⟨#[]⟩, .string ⟨#[]⟩, .int .i64 0, .int .i64 0, .int .i64 0, .int .i64 0, .int .i64 0, .int .i64 0, .int .i64 0]).cells k).size = k * 9 := by
  simp [Builtin.zeroCells, Value.cells]

end Go.Proofs.YtmifdieofccjaaaDoor

namespace Go.Proofs.YtmifdieofccjaaaDoor
open Go.RowKit

theorem iinfo0 : (Tryd.prog.info? 3).map (fun i => (i.zero, i.size, i.bytes)) = some (some (.int .i64 0), 1, 8) := by kernel_rfl
theorem iinfo : ∃ i0, Tryd.prog.info? 3 = some i0 ∧ i0.zero = some (.int .i64 0) ∧ i0.size = 1 ∧ i0.bytes = 8 := by
  obtain ⟨i0, h, e⟩ := Option.map_eq_some_iff.1 iinfo0
  simp only [Prod.mk.injEq] at e
  exact ⟨i0, h, e⟩

def iblank : List Value := [.int .i64 0]
set_option maxRecDepth 20000 in
theorem iclear1 (w : World) (ty : TypeId) (b o c : Nat) (hc : ∀ j, j < 1 → (w.cell? ⟨b, o + j, none⟩).isSome = true) (hf : ∀ j, j < 1 → w.frozen? ⟨b, o + j, none⟩ = false) :
    (Builtin.clear_ #[23] ty #[.slice (some ⟨b, o, none⟩) 1 c]).run Tryd.prog w = .ok (.tuple #[]) (w.setCells b o iblank) := by
  have hzc : (Builtin.zeroCells (Value.int .i64 0).cells 1).toList = iblank := by kernel_rfl
  have hst := run_storeCells_cells (P := Tryd.prog) b o iblank 0 w (by simpa [iblank] using hc) (by simpa [iblank] using hf) (by simp [iblank, Value.oneCell'])
  simp only [Nat.add_zero] at hst
  simp [Builtin.clear_, run_underlying Tryd.underlying23, hzc, hst]

theorem icopy3 (w : World) (ty : TypeId) (b o dLen dCap : Nat) (a : Addr) (sLen sCap : Nat) (cs : List Value) (hn : cs.length = Nat.min sLen dLen)
    (hsrc : ∀ j v, cs[j]? = some v → w.cell? (a.add j) = some v) (hc : ∀ j, j < cs.length → (w.cell? ⟨b, o + j, none⟩).isSome = true) (hf : ∀ j, j < cs.length → w.frozen? ⟨b, o + j, none⟩ = false) (h1 : ∀ v ∈ cs, v.oneCell' = true) :
    (Builtin.copy_ #[23, 23] ty #[.slice (some ⟨b, o, none⟩) dLen dCap, .slice (some a) sLen sCap]).run Tryd.prog w = .ok (goInt (Nat.min sLen dLen)) (w.setCells b o cs) := by
  have hl := run_loadCells_list (P := Tryd.prog) w a cs hsrc
  have hst := run_storeCells_cells (P := Tryd.prog) b o cs 0 w (by simpa using hc) (by simpa using hf) h1
  obtain ⟨i0, hi0, hz0, hz1, hz2⟩ := iinfo
  simp [Builtin.copy_, run_underlying Tryd.underlying23, Builtin.lenOf, Builtin.firstCells, sizeOf, typeInfo, hi0, hz1, ← hn, hl, hst]

theorem izeros (k : Nat) : (Builtin.zeroCells (Value.int .i64 0).cells k).size = k := by
  simp [Builtin.zeroCells, Value.cells]

end Go.Proofs.YtmifdieofccjaaaDoor

namespace Go.Proofs.YtmifdieofccjaaaDoor
open Go.RowKit

theorem nclone_any (s : List UInt8) (w : World) (hs : s.length ≤ 281474976710656) :
    Calls Tryd.prog 62 #[.string ⟨s.toArray⟩] w fun e w' => e = .returned (.string ⟨s.toArray⟩) ∧ Below w.heap.size w w' := clone_any ⟨s.toArray⟩ w hs
theorem OneR.cellN {W : World} {b : Nat} {n : Nd} (h : OneR W b n) (j : Nat) (v : Value) (hj : (ncells n)[j]? = some v) : W.cell? ⟨b, j, none⟩ = some v := by
  have := h.row j v hj
  rwa [Nat.zero_add] at this
theorem OneR.frozenN {W : World} {b : Nat} {n : Nd} (h : OneR W b n) (j : Nat) : W.frozen? ⟨b, j, none⟩ = false := by
  unfold OneR at h
  simp [World.frozen?, h]
theorem OneR.keptN {W V : World} {b : Nat} {n : Nd} (h : OneR W b n) (hb : Below W.heap.size W V) : OneR V b n := by
  unfold OneR at h ⊢
  exact (hb.block _ (Array.getElem?_eq_some_iff.1 h).1).trans h
def nzero : Nd := ⟨[], [], 0, 0, 0, 0, 0, 0, 0⟩

end Go.Proofs.YtmifdieofccjaaaDoor

namespace Go.Proofs.YtmifdieofccjaaaDoor
open Go.RowKit
/- tell -/
end Go.Proofs.YtmifdieofccjaaaDoor

namespace Go.Proofs.YtmifdieofccjaaaDoor
open Go.RowKit

theorem nat_at (A : List Nd) (x : Nd) (B : List Nd) : (A ++ x :: B)[A.length]? = some x := by simp

end Go.Proofs.YtmifdieofccjaaaDoor

namespace Go.Proofs.YtmifdieofccjaaaDoor
open Go.RowKit

/- remove -/
end Go.Proofs.YtmifdieofccjaaaDoor
