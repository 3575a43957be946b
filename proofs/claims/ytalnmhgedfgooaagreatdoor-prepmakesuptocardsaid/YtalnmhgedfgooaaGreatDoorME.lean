/-
  Runs of cells stored into a row of the call's own, whatever its elements are; copies of runs.
  What slices.Delete and slices.Insert of one answer, into a row of the call's own of nodes: the walks.
  What slices.Delete and slices.Insert of one answer, into a row of the call's own of numbers: the walks.
  A tree under change: what tree.copied and growth's tell and parentChanges do: the walks.
  A tree under change: how a growth lies in memory, which blocks a step may touch; what tell and parentChanges do: the walks.
  What growth's parentChanges does: the walks.
  What growth's remove does: the walks.
-/
import Derived.Test.YtalnmhgedfgooaaGreatDoorMD
import Derived.Laws.IdiomCopy
import Derived.Lib.AppendZeros
import Derived.Lib.JoinLaws
import Derived.Lib.SliceRun
import Derived.Lib.QuietBelow
import Derived.Deep.RegionHeld3
import Derived.BigQuiet
import Derived.Deep.RegionLaw
import Derived.Lib.AppendZerosOnto
import Derived.Lib.Overlaps
import Derived.Laws.Externs
import Derived.Maps.AppendAt
import Derived.Test.YtalnmhgedfgooaaGreatDoorMC
import Derived.Test.YtalnmhgedfgooaaGreatDoorMB
namespace Go.Proofs.YtalnmhgedfgooaaGreatDoor
open Go.RowKit

theorem cellsN_length (ns : List Nd) : (cellsL ns).length = ns.length * 9 := cellsL_length ns
theorem OwnR.spliceN {W : World} {g cap : Nat} {pre tl : List Nd} (h : OwnR W g cap (pre ++ tl)) (new : List Nd) (hfit : pre.length + new.length ≤ cap) : OwnR (W.setCells g (pre.length * 9) (cellsL new)) g cap (pre ++ new) := h.splice new hfit
theorem OwnR.spareN {W : World} {g cap : Nat} {fs : List Nd} (h : OwnR W g cap fs) (vs : List Value) (o : Nat) (ho : fs.length * 9 ≤ o) (hfit : o + vs.length ≤ cap * 9) : OwnR (W.setCells g o vs) g cap fs := h.spare vs o ho hfit
theorem OwnR.swapN {W : World} {g cap : Nat} {A B : List Nd} {y : Nd} (h : OwnR W g cap (A ++ y :: B)) (x : Nd) : OwnR (W.setCells g (A.length * 9) (ncells x)) g cap (A ++ x :: B) := h.swap1 x
theorem OwnR.someN {W : World} {g cap : Nat} {fs : List Nd} (h : OwnR W g cap fs) {j : Nat} (hj : j < cap * 9) : (W.cell? ⟨g, j, none⟩).isSome = true := h.some hj
theorem OwnR.spliceI {W : World} {g cap : Nat} {pre tl : List Int} (h : OwnR W g cap (pre ++ tl)) (new : List Int) (hfit : pre.length + new.length ≤ cap) : OwnR (W.setCells g pre.length (cellsL new)) g cap (pre ++ new) := by
  have := h.splice new hfit
  rwa [show pre.length * Lay.k Int = pre.length from Nat.mul_one _] at this
theorem OwnR.spareI {W : World} {g cap : Nat} {fs : List Int} (h : OwnR W g cap fs) (vs : List Value) (o : Nat) (ho : fs.length ≤ o) (hfit : o + vs.length ≤ cap) : OwnR (W.setCells g o vs) g cap fs :=
  h.spare vs o (by rw [show fs.length * Lay.k Int = fs.length from Nat.mul_one _]; exact ho) (by rw [show cap * Lay.k Int = cap from Nat.mul_one _]; exact hfit)
theorem OwnR.swapI {W : World} {g cap : Nat} {A B : List Int} {y : Int} (h : OwnR W g cap (A ++ y :: B)) (x : Int) : OwnR (W.setCells g A.length [.int .i64 x]) g cap (A ++ x :: B) := by
  have := h.swap1 x
  rwa [show A.length * Lay.k Int = A.length from Nat.mul_one _] at this
theorem OwnR.someI {W : World} {g cap : Nat} {fs : List Int} (h : OwnR W g cap fs) {j : Nat} (hj : j < cap) : (W.cell? ⟨g, j, none⟩).isSome = true := h.some (by rw [show cap * Lay.k Int = cap from Nat.mul_one _]; exact hj)
theorem wp_copy_runN (w : World) {o : Oper} {a : Act} {K : Act → World → Prop} {Q : Exit → Act → World → Prop} (d s : Operand) (t t' : TypeId)
    (ho : o.op = .call { callee := .builtin .copy, args := #[d, s], argTypes := #[t, t'] }) (v u : Value) (hd : a.eval d = v) (hs : a.eval s = u) {v' : Value} {w' : World}
    (hr : (Builtin.copy_ #[t, t'] o.type #[v, u]).run Tryz.prog w = .ok v' w') (h : K (a.put o.dst v') w') : o.wp Tryz.prog a w K Q := by
  unfold Oper.wp execOp
  simp only [ho, resolve, invoke, builtin, Sem.run_bind, Sem.run_pure, Result.andThen_ok, List.map_toArray, List.map_cons, List.map_nil, hd, hs, hr]
  exact h
theorem wpList_copy_runN (w : World) {ops : Array Oper} {rest : List Oper} {o : Oper} {a : Act} {Q : Exit → Act → World → Prop} (hgd : o.guard = none) (d s : Operand) (t t' : TypeId)
    (ho : o.op = .call { callee := .builtin .copy, args := #[d, s], argTypes := #[t, t'] }) (v u : Value) (hd : a.eval d = v) (hs : a.eval s = u) {v' : Value} {w' : World}
    (hr : (Builtin.copy_ #[t, t'] o.type #[v, u]).run Tryz.prog w = .ok v' w') (h : wpList Tryz.prog ops Q rest (a.put o.dst v') w') : wpList Tryz.prog ops Q (o :: rest) a w :=
  wpList_plain hgd fun _ hK => wp_copy_runN w d s t t' ho v u hd hs hr (hK _ _ h)
theorem step_copy_runN {ops : Array Oper} {o : Oper} {a : Act} {w : World} {K : Act → World → Prop} {Q : Exit → Act → World → Prop} {E : Prop}
    (hg : o.guard = none) (d x : Operand) (dT sT : TypeId) (hop : o.op = Op.call { callee := Callee.builtin Builtin.copy, args := #[d, x], argTypes := #[dT, sT] })
    (v u : Value) (hd : a.eval d = v) (hx : a.eval x = u) {v' : Value} {w' : World} (hr : (Builtin.copy_ #[dT, sT] o.type #[v, u]).run Tryz.prog w = .ok v' w') (hK : K (a.put o.dst v') w') :
    if Region.wanted o (yielded ops a.tmps) = true then Oper.wp Tryz.prog o a w K Q else E := by
  have hw : Region.wanted o (yielded ops a.tmps) = true := by simp [Region.wanted, hg]
  rw [if_pos hw]
  unfold Oper.wp
  simp [execOp, hop, resolve, invoke, builtin, hd, hx, hr, Result.andThen]
  exact hK


end Go.Proofs.YtalnmhgedfgooaaGreatDoor

namespace Go.Proofs.YtalnmhgedfgooaaGreatDoor
open Go.RowKit

theorem ninfo0 : (Tryz.prog.info? 46).map (fun i => (i.zero, i.size, i.bytes)) = some (some (.agg #[.string ⟨#[]⟩, .string ⟨#[]⟩, .int .i64 0, .int .i64 0, .int .i64 0, .int .i64 0, .int .i64 0, .int .i64 0, .int .i64 0]), 9, 88) := by kernel_rfl
theorem ninfo : ∃ i0, Tryz.prog.info? 46 = some i0 ∧ i0.zero = some (.agg #[.string ⟨#[]⟩, .string ⟨#[]⟩, .int .i64 0, .int .i64 0, .int .i64 0, .int .i64 0, .int .i64 0, .int .i64 0, .int .i64 0]) ∧ i0.size = 9 ∧ i0.bytes = 88 := by
  obtain ⟨i0, h, e⟩ := Option.map_eq_some_iff.1 ninfo0
  simp only [Prod.mk.injEq] at e
  exact ⟨i0, h, e⟩

def nblank : List Value := [.string ⟨#[]⟩, .string ⟨#[]⟩, .int .i64 0, .int .i64 0, .int .i64 0, .int .i64 0, .int .i64 0, .int .i64 0, .int .i64 0]
set_option maxRecDepth 20000 in
theorem nclear1 (w : World) (ty : TypeId) (b o c : Nat) (hc : ∀ j, j < 9 → (w.cell? ⟨b, o + j, none⟩).isSome = true) (hf : ∀ j, j < 9 → w.frozen? ⟨b, o + j, none⟩ = false) :
    (Builtin.clear_ #[22] ty #[.slice (some ⟨b, o, none⟩) 1 c]).run Tryz.prog w = .ok (.tuple #[]) (w.setCells b o nblank) := by
  have hzc : (Builtin.zeroCells (Value.agg #[.string ⟨#[]⟩, .string ⟨#[]⟩, .int .i64 0, .int .i64 0, .int .i64 0, .int .i64 0, .int .i64 0, .int .i64 0, .int .i64 0]).cells 1).toList = nblank := by kernel_rfl
  have hst := run_storeCells_cells (P := Tryz.prog) b o nblank 0 w (by simpa [nblank] using hc) (by simpa [nblank] using hf) (by simp [nblank, Value.oneCell'])
  simp only [Nat.add_zero] at hst
  simp [Builtin.clear_, run_underlying Tryz.underlying22, hzc, hst]

set_option maxRecDepth 20000 in
set_option maxHeartbeats 1000000 in
theorem ndelete_any (g cap : Nat) (A B : List Nd) (f : Nd) (n : Nat) (w : World) (ho : OwnR w g cap (A ++ f :: B)) (hn : n = A.length + B.length + 1) (hsm : n ≤ 400) :
    Calls Tryz.prog 79 #[.slice (some ⟨g, 0, none⟩) n cap, .int .i64 A.length, .int .i64 (A.length + 1 : Nat)] w fun e w' =>
      e = .returned (.slice (some ⟨g, 0, none⟩) (A.length + B.length) cap) ∧ OwnR w' g cap (A ++ B) ∧ w.grownBy w' (some g) := by
  obtain ⟨i0, hi0, hz0, hz1, hz2⟩ := ninfo
  have hle := ho.le
  have hcl := ho.capLe
  simp only [maxLen] at hcl
  rw [List.length_append, List.length_cons] at hle
  have hrow := ho.row
  obtain ⟨AD, hAD, hsrc⟩ : ∃ AD : Addr, (if cap = A.length + 1 then some (⟨g, 0, none⟩ : Addr) else some ⟨g, (A.length + 1) * 9, none⟩) = some AD ∧ Hid (∀ t u, (cellsL B)[t]? = some u → w.drew.cell? (AD.add t) = some u) := by
    by_cases h : cap = A.length + 1
    · refine ⟨⟨g, 0, none⟩, by simp [h], fun t u hu => ?_⟩
      have h0 : B = [] := List.eq_nil_of_length_eq_zero (by omega)
      rw [h0] at hu
      simp [cellsL_nil] at hu
    · refine ⟨⟨g, (A.length + 1) * 9, none⟩, by simp [h], fun t u hu => ?_⟩
      rw [Addr.add_lit]
      have := hrow ((A.length + 1) * 9 + t) u (by
        rw [cellsL_append, List.getElem?_append_right (by rw [cellsN_length]; omega), cellsN_length, cellsL_cons, List.getElem?_append_right (by rw [Lay.len]; show 9 ≤ _; omega)]
        rw [Lay.len, ← hu]; congr 1; show _ - 9 = _; omega)
      rw [Nat.zero_add] at this
      exact this
  have s1 : Hid ((cellsL B).length = B.length * 9) := cellsN_length B
  have s2 : Hid (∀ u ∈ cellsL B, u.oneCell' = true) := cellsL_one B
  have s3 : Hid (∀ t, t < (cellsL B).length → (w.drew.cell? ⟨g, 0 + A.length * 9 + t, none⟩).isSome = true ∧ w.drew.frozen? ⟨g, 0 + A.length * 9 + t, none⟩ = false) := by
    intro t ht
    rw [cellsN_length] at ht
    exact ⟨ho.someN (by omega), ho.frozen _⟩
  obtain ⟨W1, hW1⟩ : ∃ W1, W1 = w.drew.setCells g (0 + A.length * 9) (cellsL B) := ⟨_, rfl⟩
  have ho1 : OwnR W1 g cap (A ++ B) := by rw [hW1, Nat.zero_add]; exact ho.drew.spliceN B (by omega)
  have hg1 : w.grownBy W1 (some g) := by rw [hW1]; have := ngrown_setCells (g := g) (cellsL B) (0 + A.length * 9) w.drew; exact ⟨this.os, this.tape, this.output, this.size, this.block⟩
  have hclr : ∀ ty c, (Builtin.clear_ #[22] ty #[.slice (some ⟨g, (A.length + B.length) * 9, none⟩) 1 c]).run Tryz.prog W1 = .ok (.tuple #[]) (W1.setCells g ((A.length + B.length) * 9) nblank) := fun ty c =>
    nclear1 W1 ty g _ c (fun j hj => ho1.someN (by omega)) (fun j hj => ho1.frozen _)
  have FIN : Hid (OwnR (W1.setCells g ((A.length + B.length) * 9) nblank) g cap (A ++ B) ∧ w.grownBy (W1.setCells g ((A.length + B.length) * 9) nblank) (some g)) :=
    ⟨ho1.spareN nblank _ (by rw [List.length_append]; omega) (by simp [nblank]; omega), ngrown_trans hg1 (ngrown_setCells _ _ _)⟩
  have hW : Hid (W1 = w.drew.setCells g (0 + A.length * 9) (cellsL B)) := hW1
  have hic : A.length ≤ cap := by omega
  have hjc : A.length + 1 ≤ cap := by omega
  have hne : ¬ (cap = A.length + B.length) := by omega
  have hb1 : (0 : Int) ≤ (A.length : Int) + 1 := by omega
  have hb2 : (A.length : Int) ≤ (A.length : Int) + (B.length : Int) := by omega
  have hb3 : (0 : Int) ≤ (A.length : Int) + (B.length : Int) := by omega
  have hs1 : A.length + B.length + 1 - (A.length + B.length) = 1 := by omega
  clear hW1 ho1 hg1 hrow ho
  subst hn
  go_enter Tryz.func79, Tryz.ntmps79
  go_wp2_with fail
  go_region_law (refine step_append_room rfl (.tmp 22) (.tmp 25) 22 rfl 46 i0 9 Tryz.underlying22 hi0 hz1 g 0 A.length cap (by simp [Act.eval, Act.put]) AD B.length (cap - (A.length + 1)) (cellsL B) (by simp [Act.eval, Act.put]) s1.out hsrc.out s2.out (by omega) s3.out ?_; rw [← hW.out])
  go_wp2
  go_ret
  exact ⟨rfl, FIN.out⟩

theorem ncopy3 (w : World) (ty : TypeId) (b o dLen dCap : Nat) (a : Addr) (sLen sCap : Nat) (cs : List Value) (hn : cs.length = Nat.min sLen dLen * 9)
    (hsrc : ∀ j v, cs[j]? = some v → w.cell? (a.add j) = some v) (hc : ∀ j, j < cs.length → (w.cell? ⟨b, o + j, none⟩).isSome = true) (hf : ∀ j, j < cs.length → w.frozen? ⟨b, o + j, none⟩ = false) (h1 : ∀ v ∈ cs, v.oneCell' = true) :
    (Builtin.copy_ #[22, 22] ty #[.slice (some ⟨b, o, none⟩) dLen dCap, .slice (some a) sLen sCap]).run Tryz.prog w = .ok (goInt (Nat.min sLen dLen)) (w.setCells b o cs) := by
  have hl := run_loadCells_list (P := Tryz.prog) w a cs hsrc
  have hst := run_storeCells_cells (P := Tryz.prog) b o cs 0 w (by simpa using hc) (by simpa using hf) h1
  obtain ⟨i0, hi0, hz0, hz1, hz2⟩ := ninfo
  simp [Builtin.copy_, run_underlying Tryz.underlying22, Builtin.lenOf, Builtin.firstCells, sizeOf, typeInfo, hi0, hz1, ← hn, hl, hst]

set_option maxRecDepth 10000 in
set_option maxHeartbeats 1000000 in
/-- at the end -/
theorem ninsert_end (v : Value) (A : List Nd) (x : Nd) (B b : Nat) (w : World) (ho : OwnS w B v A) (hB : B ≤ w.heap.size) (hl : A.length ≤ 400) (h1 : OneR w b x) :
    Calls Tryz.prog 76 #[v, .int .i64 A.length, .slice (some ⟨b, 0, none⟩) 1 1] w fun e w' =>
      ∃ v', e = .returned v' ∧ OwnS w' B v' (A ++ [x]) ∧ w.grownBy w' v.ownBlock ∧ (v'.ownBlock = v.ownBlock ∨ v'.ownBlock = some w.heap.size) := by
  obtain ⟨i0, hi0, hz0, hz1, hz2⟩ := ninfo
  have hrow := ho.row
  have HR := hide hrow
  have H1 := hide h1.row
  have V : ∃ a c, v = .slice a A.length c ∧ A.length ≤ c := by
    rcases ho with ⟨rfl, rfl⟩ | ⟨g, cap, rfl, _, h⟩
    · exact ⟨none, 0, rfl, Nat.le_refl _⟩
    · exact ⟨_, cap, rfl, h.le⟩
  obtain ⟨a, c, rfl, hc⟩ := V
  clear ho hrow h1
  rcases Nat.lt_or_ge A.length c with hcl | hcl
  · have hne : ¬ c = A.length := by omega
    go_enter Tryz.func76, Tryz.ntmps76
    go_wp2_with (at_builtin; refine wpList_append_own_at _ rfl _ _ 22 rfl B 46 i0 _ 9 88 Tryz.underlying22 hi0 hz0 hz1 hz2 rfl (by decide) _ A.length (cellsL A) rfl (unhide HR) ⟨b, 0, none⟩ 1 1 (ncells x) rfl (by rfl) ?qc2 ((Lay.one x)) ?qc4 ?qc5 hB ?_)
    case qc2 =>
      intro j u hj
      rw [Addr.add_lit]
      exact unhide H1 j u hj
    case qc4 => simp only [maxLen]; omega
    case qc5 => omega
    intro v' w1 hown hgrow _ hloc
    go_wp2
    go_ret
    exact ⟨v', rfl, OwnS.of_row (by rw [List.length_append, cellsL_snoc]; exact hown), hgrow, hloc⟩
  · obtain rfl : c = A.length := by omega
    go_enter Tryz.func76, Tryz.ntmps76
    go_wp2_with (at_builtin; refine wpList_append_own_at _ rfl _ _ 22 rfl B 46 i0 _ 9 88 Tryz.underlying22 hi0 hz0 hz1 hz2 rfl (by decide) _ A.length (cellsL A) rfl (unhide HR) ⟨b, 0, none⟩ 1 1 (ncells x) rfl (by rfl) ?qc2 ((Lay.one x)) ?qc4 ?qc5 hB ?_)
    case qc2 =>
      intro j u hj
      rw [Addr.add_lit]
      exact unhide H1 j u hj
    case qc4 => simp only [maxLen]; omega
    case qc5 => omega
    intro v' w1 hown hgrow _ hloc
    go_wp2
    go_ret
    exact ⟨v', rfl, OwnS.of_row (by rw [List.length_append, cellsL_snoc]; exact hown), hgrow, hloc⟩

set_option maxRecDepth 10000 in
set_option maxHeartbeats 2000000 in
/-- there is room -/
theorem ninsert_shift (g cap : Nat) (A R : List Nd) (y x : Nd) (n b : Nat) (w : World) (ho : OwnR w g cap (A ++ y :: R)) (hn : n = A.length + R.length + 1) (hsm : n ≤ 400) (hroom : n + 1 ≤ cap) (h1 : OneR w b x) (hbg : b ≠ g) :
    Calls Tryz.prog 76 #[.slice (some ⟨g, 0, none⟩) n cap, .int .i64 A.length, .slice (some ⟨b, 0, none⟩) 1 1] w fun e w' =>
      e = .returned (.slice (some ⟨g, 0, none⟩) (n + 1) cap) ∧ OwnR w' g cap (A ++ x :: y :: R) ∧ w.grownBy w' (some g) := by
  have hcl := ho.capLe
  simp only [maxLen] at hcl
  have hrow := ho.row
  have hshg : w.shape? g = some (46, cap * 9) := by
    obtain ⟨rest, q1, q2, _⟩ := ho
    rw [List.length_append, List.length_cons] at q2
    simp [World.shape?, q1, cellsN_length]
    exact ⟨rfl, q2⟩
  have hshb : w.shape? b = some (46, 9) := by unfold OneR at h1; simp [World.shape?, h1]; exact ⟨rfl, rfl⟩
  have hfb : ∀ j, w.frozen? ⟨b, j, none⟩ = false := fun j => by unfold OneR at h1; simp [World.frozen?, h1]
  have hov : ∀ lb cb, (callFunc 92 #[.slice (some ⟨b, 0, none⟩) 1 1, .slice (some ⟨g, (A.length + 1) * 9, none⟩) lb cb]).run Tryz.prog w = .ok (.value (.bool false)) w := fun lb cb => by
    rw [run_callFunc_extern Tryz.func92 (by kernel_rfl) (by kernel_rfl) (by kernel_rfl) (e := Extern.SlicesOverlaps.overlaps #[22, 22] #[4]) (by kernel_rfl),
      Lib.run_overlaps_apart w 22 4 46 Tryz.underlying22 9 Tryz.sizeOf46 ⟨b, 0, none⟩ ⟨g, (A.length + 1) * 9, none⟩ 1 1 lb cb hbg 46 46 9 (cap * 9) hshb hshg (by omega) (hfb 0) (hfb 9)]
    rfl
  obtain ⟨W1, hW1⟩ : ∃ W1, W1 = w.drew.setCells g ((A.length + 1) * 9) (cellsL (y :: R)) := ⟨_, rfl⟩
  have ho1 : OwnR W1 g cap (A ++ y :: y :: R) := by
    have h : OwnR w.drew g cap ((A ++ [y]) ++ R) := by rw [List.append_assoc]; exact ho
    have := h.spliceN (y :: R) (by simp; omega)
    rw [hW1]
    simpa using this
  have hg1 : w.grownBy W1 (some g) := by rw [hW1]; have := ngrown_setCells (g := g) (cellsL (y :: R)) ((A.length + 1) * 9) w.drew; exact ⟨this.os, this.tape, this.output, this.size, this.block⟩
  have hcp1 : ∀ ty dc sc, (Builtin.copy_ #[22, 22] ty #[.slice (some ⟨g, (A.length + 1) * 9, none⟩) (n - A.length) dc, .slice (some ⟨g, A.length * 9, none⟩) (n + 1 - A.length) sc]).run Tryz.prog w.drew = .ok (goInt (Nat.min (n + 1 - A.length) (n - A.length))) W1 := fun ty dc sc => by
    rw [hW1]
    exact ncopy3 w.drew ty g _ _ dc ⟨g, A.length * 9, none⟩ _ sc (cellsL (y :: R)) (by rw [cellsN_length]; simp only [Nat.min_def, List.length_cons]; split <;> omega)
      (fun j v hj => by
        rw [Addr.add_lit]
        have := hrow (A.length * 9 + j) v (by rw [cellsL_append, List.getElem?_append_right (by rw [cellsN_length]; omega), cellsN_length, Nat.add_sub_cancel_left]; exact hj)
        rw [Nat.zero_add] at this
        exact this)
      (fun j hj => by rw [cellsN_length] at hj; exact ho.someN (by simp at hj; omega)) (fun j _ => ho.frozen _) (cellsL_one _)
  have hcp2 : ∀ ty dc, (Builtin.copy_ #[22, 22] ty #[.slice (some ⟨g, A.length * 9, none⟩) (n + 1 - A.length) dc, .slice (some ⟨b, 0, none⟩) 1 1]).run Tryz.prog W1 = .ok (goInt (Nat.min 1 (n + 1 - A.length))) (W1.setCells g (A.length * 9) (ncells x)) := fun ty dc =>
    ncopy3 W1 ty g _ _ dc ⟨b, 0, none⟩ 1 1 (ncells x) (by simp only [Nat.min_def, ncells, List.length_cons, List.length_nil]; split <;> omega)
      (fun j v hj => by
        rw [Addr.add_lit]
        have hb2 : W1.heap[b]? = w.heap[b]? := hg1.block b (by unfold OneR at h1; exact (Array.getElem?_eq_some_iff.1 h1).1) (fun e => hbg (Option.some.inj e))
        have h2 : OneR W1 b x := hb2.trans h1
        exact h2.row j v hj)
      (fun j hj => ho1.someN (by simp [ncells] at hj; omega)) (fun j _ => ho1.frozen _) ((Lay.one x))
  have FIN : Hid (OwnR (W1.setCells g (A.length * 9) (ncells x)) g cap (A ++ x :: y :: R) ∧ w.grownBy (W1.setCells g (A.length * 9) (ncells x)) (some g)) :=
    ⟨ho1.swapN x, ngrown_trans hg1 (ngrown_setCells _ _ _)⟩
  have hin : A.length < n := by omega
  have hini : (A.length : Int) < (n : Int) := by omega
  have hw1 : IntKind.i64.wrap ((A.length : Int) + 1) = (A.length : Int) + 1 := by rw [IntKind.wrap_i64]; omega
  have hb1 : (0 : Int) ≤ (A.length : Int) + 1 := by omega
  have hb2 : ¬ (cap = A.length + 1) := by omega
  have hb3 : (A.length : Int) ≤ (n : Int) + 1 := by omega
  have hb4 : ¬ (cap = A.length) := by omega
  have hb5 : (A.length : Int) + 1 ≤ (n : Int) + 1 := by omega
  have hb6 : ¬ ((cap : Int) < (n : Int) + 1) := by omega
  have hz2 : ¬ ((A.length : Int) = (n : Int)) := by omega
  have htn : ((A.length : Int) + 1).toNat = A.length + 1 := by omega
  clear hW1 ho1 hg1 hrow hshg hshb hfb ho h1 hn
  go_enter Tryz.func76, Tryz.ntmps76
  go_wp2_with (simp only [hov])
  go_region_law (refine step_copy_runN rfl (.tmp 73) (.tmp 76) 22 22 rfl (.slice (some ⟨g, (A.length + 1) * 9, none⟩) (n - A.length) (cap - (A.length + 1))) (.slice (some ⟨g, A.length * 9, none⟩) (n + 1 - A.length) (cap - A.length)) (by simp [Act.eval, Act.put]) (by simp [Act.eval, Act.put]) (hcp1 _ _ _) ?_)
  go_wp2_with (at_builtin; refine wpList_copy_runN _ rfl _ _ 22 22 rfl _ _ rfl rfl (hcp2 _ _) ?_)
  go_ret
  exact ⟨rfl, FIN.out⟩

theorem nzeros (k : Nat) : (Builtin.zeroCells (Value.agg #[.string ⟨#[]⟩, .string ⟨#[]⟩, .int .i64 0, .int .i64 0, .int .i64 0, .int .i64 0, .int .i64 0, .int .i64 0, .int .i64 0]).cells k).size = k * 9 := by
  simp [Builtin.zeroCells, Value.cells]

set_option maxRecDepth 10000 in
set_option maxHeartbeats 2000000 in
/-- there is no room -/
theorem ninsert_grow (g cap : Nat) (A R : List Nd) (y x : Nd) (n b : Nat) (w : World) (ho : OwnR w g cap (A ++ y :: R)) (hn : n = A.length + R.length + 1) (hsm : n ≤ 400) (hroom : cap < n + 1) (h1 : OneR w b x) :
    Calls Tryz.prog 76 #[.slice (some ⟨g, 0, none⟩) n cap, .int .i64 A.length, .slice (some ⟨b, 0, none⟩) 1 1] w fun e w' =>
      ∃ cap', e = .returned (.slice (some ⟨w.heap.size, 0, none⟩) (n + 1) cap') ∧ OwnR w' w.heap.size cap' (A ++ x :: y :: R) ∧ Below w.heap.size w w' := by
  have hcap : cap = n := by have := ho.le; simp at this; omega
  obtain ⟨i0, hi0, hz0, hz1, hz2⟩ := ninfo
  have hrow := ho.row
  have hgw := ho.lt
  have hbw : b < w.heap.size := by unfold OneR at h1; exact (Array.getElem?_eq_some_iff.1 h1).1
  have hold : (Builtin.firstCells i0.size A.length (.slice (some ⟨g, 0, none⟩) A.length cap)).run Tryz.prog w.drew = .ok (cellsL A).toArray w.drew := by
    rw [hz1]
    exact run_firstCells_some w.drew 9 A.length ⟨g, 0, none⟩ A.length cap (cellsL A) (cellsN_length A) (fun j v hj => by
      rw [Addr.add_lit]
      exact hrow j v (by rw [cellsL_append, List.getElem?_append_left (List.getElem?_eq_some_iff.1 hj).1]; exact hj))
  obtain ⟨G, hG⟩ : ∃ G, G = grownCap w (n + 1) cap 46 := ⟨_, rfl⟩
  have hGn : n + 1 ≤ G := by rw [hG]; exact grownCap_ge w _ _ _
  have hGm : G ≤ maxLen := by rw [hG]; exact grownCap_le_maxLen w (n + 1) cap _ (by unfold maxLen; omega)
  have hG63 : G ≤ 9223372036854775807 := by have := hGm; unfold maxLen at this; omega
  obtain ⟨ROW, hROW⟩ : ∃ ROW : Array Value, ROW = (cellsL A).toArray ++ Builtin.zeroCells (Value.agg #[.string ⟨#[]⟩, .string ⟨#[]⟩, .int .i64 0, .int .i64 0, .int .i64 0, .int .i64 0, .int .i64 0, .int .i64 0, .int .i64 0]).cells (n + 1 - A.length) ++ Builtin.zeroCells (Value.agg #[.string ⟨#[]⟩, .string ⟨#[]⟩, .int .i64 0, .int .i64 0, .int .i64 0, .int .i64 0, .int .i64 0, .int .i64 0, .int .i64 0]).cells (G - (n + 1)) := ⟨_, rfl⟩
  obtain ⟨W1, hW1⟩ : ∃ W1, W1 = w.drew.alloc (.cells ROW 46) := ⟨_, rfl⟩
  have hik : A.length + (n + 1 - A.length) = n + 1 := by omega
  have hrz : ∀ ty, (Builtin.append_ #[22, 3] ty #[.slice (some ⟨g, 0, none⟩) A.length cap, .int .i64 ((n : Int) + 1 - (A.length : Int))]).run Tryz.prog w =
      .ok (.slice (some ⟨w.heap.size, 0, none⟩) (n + 1) G) W1 := fun ty => by
    have h := Lib.run_append_grow_zeros w 22 3 ty 46 i0 _ .i64 .i64 Tryz.underlying22 Tryz.underlying3 hi0 hz0 (some ⟨g, 0, none⟩) A.length cap (cellsL A) hold (n + 1 - A.length) (by omega) (by omega) (by omega) (by omega) (by rw [hz2]; omega) (by rw [hz2, hik]; exact growslice_fits hroom (by omega))
    rw [hik, ← hG, ← hROW, ← hW1] at h
    rw [show (n : Int) + 1 - (A.length : Int) = ((n + 1 - A.length : Nat) : Int) by omega]
    exact h
  have ho1 : OwnR W1 w.heap.size G A := by
    refine ⟨(Builtin.zeroCells (Value.agg #[.string ⟨#[]⟩, .string ⟨#[]⟩, .int .i64 0, .int .i64 0, .int .i64 0, .int .i64 0, .int .i64 0, .int .i64 0, .int .i64 0]).cells (n + 1 - A.length) ++ Builtin.zeroCells (Value.agg #[.string ⟨#[]⟩, .string ⟨#[]⟩, .int .i64 0, .int .i64 0, .int .i64 0, .int .i64 0, .int .i64 0, .int .i64 0, .int .i64 0]).cells (G - (n + 1))).toList, ?_, ?_, by omega, hGm⟩
    · rw [hW1, hROW]
      have := heap_alloc_new w.drew (.cells ((cellsL A).toArray ++ Builtin.zeroCells (Value.agg #[.string ⟨#[]⟩, .string ⟨#[]⟩, .int .i64 0, .int .i64 0, .int .i64 0, .int .i64 0, .int .i64 0, .int .i64 0, .int .i64 0]).cells (n + 1 - A.length) ++ Builtin.zeroCells (Value.agg #[.string ⟨#[]⟩, .string ⟨#[]⟩, .int .i64 0, .int .i64 0, .int .i64 0, .int .i64 0, .int .i64 0, .int .i64 0, .int .i64 0]).cells (G - (n + 1))) 46)
      refine Eq.trans this ?_
      congr 2
      apply Array.toList_inj.1
      simp
    · simp only [show Lay.k Nd = 9 from rfl, Array.length_toList, Array.size_append, nzeros]; omega
  have hB1 : Below w.heap.size w W1 := by rw [hW1]; exact ((Below.refl _ w).drew).alloc (Nat.le_refl _) _
  obtain ⟨W2, hW2⟩ : ∃ W2, W2 = W1.setCells w.heap.size (A.length * 9) (ncells x) := ⟨_, rfl⟩
  have ho2 : OwnR W2 w.heap.size G (A ++ [x]) := by
    have h : OwnR W1 w.heap.size G (A ++ []) := by rw [List.append_nil]; exact ho1
    have := h.spliceN [x] (by simp; omega)
    rw [hW2]
    rw [cellsL_cons, cellsL_nil, List.append_nil] at this
    exact this
  have hg2 : W1.grownBy W2 (some w.heap.size) := by rw [hW2]; exact ngrown_setCells _ _ _
  have hB2 : Below w.heap.size w W2 := hB1.grown hg2 hB1.size (fun k e => by cases e; exact Nat.le_refl _)
  have hcpA : ∀ ty dc, (Builtin.copy_ #[22, 22] ty #[.slice (some ⟨w.heap.size, A.length * 9, none⟩) (n + 1 - A.length) dc, .slice (some ⟨b, 0, none⟩) 1 1]).run Tryz.prog W1 = .ok (goInt (Nat.min 1 (n + 1 - A.length))) W2 := fun ty dc => by
    rw [hW2]
    exact ncopy3 W1 ty w.heap.size _ _ dc ⟨b, 0, none⟩ 1 1 (ncells x) (by simp only [Nat.min_def, ncells, List.length_cons, List.length_nil]; split <;> omega)
      (fun j v hj => by rw [Addr.add_lit]; exact (show OneR W1 b x from (hB1.block b hbw).trans h1).row j v hj)
      (fun j hj => ho1.someN (by simp [ncells] at hj; omega)) (fun j _ => ho1.frozen _) ((Lay.one x))
  obtain ⟨W3, hW3⟩ : ∃ W3, W3 = W2.drew.setCells w.heap.size ((A.length + 1) * 9) (cellsL (y :: R)) := ⟨_, rfl⟩
  have hcpB : ∀ ty dc sc, (Builtin.copy_ #[22, 22] ty #[.slice (some ⟨w.heap.size, (A.length + 1) * 9, none⟩) (n - A.length) dc, .slice (some ⟨g, A.length * 9, none⟩) (n - A.length) sc]).run Tryz.prog W2.drew = .ok (goInt (Nat.min (n - A.length) (n - A.length))) W3 := fun ty dc sc => by
    rw [hW3]
    exact ncopy3 W2.drew ty w.heap.size _ _ dc ⟨g, A.length * 9, none⟩ _ sc (cellsL (y :: R)) (by rw [cellsN_length]; simp only [Nat.min_self, List.length_cons]; omega)
      (fun j v hj => by
        rw [Addr.add_lit]
        have := hrow (A.length * 9 + j) v (by rw [cellsL_append, List.getElem?_append_right (by rw [cellsN_length]; omega), cellsN_length, Nat.add_sub_cancel_left]; exact hj)
        rw [Nat.zero_add] at this
        exact (hB2.cell (p := ⟨g, A.length * 9 + j, none⟩) hgw).trans this)
      (fun j hj => by rw [cellsN_length] at hj; exact ho2.drew.someN (by simp at hj; omega)) (fun j _ => ho2.drew.frozen _) (cellsL_one _)
  have FIN : Hid (OwnR W3 w.heap.size G (A ++ x :: y :: R) ∧ Below w.heap.size w W3) := by
    refine ⟨?_, ?_⟩
    · have h : OwnR W2.drew w.heap.size G ((A ++ [x]) ++ []) := by rw [List.append_nil]; exact ho2
      have := h.spliceN (y :: R) (by simp; omega)
      rw [hW3]
      simpa using this
    · rw [hW3]; exact hB2.drew.grown (ngrown_setCells _ _ _) hB2.size (fun k e => by cases e; exact Nat.le_refl _)
  have hin : A.length < n := by omega
  have hini : (A.length : Int) < (n : Int) := by omega
  have hw1 : IntKind.i64.wrap ((A.length : Int) + 1) = (A.length : Int) + 1 := by rw [IntKind.wrap_i64]; omega
  have hb1 : (0 : Int) ≤ (A.length : Int) + 1 := by omega
  have hb2 : ¬ (G = A.length + 1) := by omega
  have hb3 : (A.length : Int) ≤ (n : Int) + 1 := by omega
  have hb4 : ¬ (n = A.length) := by omega
  have hb5 : (A.length : Int) + 1 ≤ (n : Int) + 1 := by omega
  have hb6 : ¬ (G = A.length) := by omega
  have hb7 : (A.length : Int) ≤ (n : Int) := by omega
  have hz3 : ¬ ((A.length : Int) = (n : Int)) := by omega
  have htn : ((A.length : Int) + 1).toNat = A.length + 1 := by omega
  subst hcap
  clear hn hROW hW1 hW2 hW3 hG hrow ho h1 ho1 ho2 hB1 hB2 hg2 hold hik
  go_enter Tryz.func76, Tryz.ntmps76
  go_wp2_with (first
    | (at_builtin; refine Lib.wpList_append_run _ rfl _ _ _ _ rfl _ _ rfl rfl _ _ (hrz _) ?_)
    | (at_builtin; refine wpList_copy_runN _ rfl _ _ 22 22 rfl _ _ rfl rfl (hcpA _ _) ?_))
  go_region_law (refine step_copy_runN rfl (.tmp 50) (.tmp 53) 22 22 rfl (.slice (some ⟨w.heap.size, (A.length + 1) * 9, none⟩) (cap - A.length) (G - (A.length + 1))) (.slice (some ⟨g, A.length * 9, none⟩) (cap - A.length) (cap - A.length)) (by simp [Act.eval, Act.put]) (by simp [Act.eval, Act.put]) (hcpB _ _ _) ?_)
  go_wp2
  go_ret
  exact ⟨G, rfl, FIN.out⟩

theorem ninsert_any (v : Value) (A R : List Nd) (x : Nd) (q : Nat) (w : World) (ho : OwnS w 0 v (A ++ R)) (hl : (A ++ R).length ≤ 400) (h1 : OneR w q x) (hq : v.ownBlock ≠ some q) :
    Calls Tryz.prog 76 #[v, .int .i64 A.length, .slice (some ⟨q, 0, none⟩) 1 1] w fun e w' =>
      ∃ v', e = .returned v' ∧ OwnS w' 0 v' (A ++ x :: R) ∧ w.grownBy w' v.ownBlock ∧ (v'.ownBlock = v.ownBlock ∨ ∃ k, w.heap.size ≤ k ∧ v'.ownBlock = some k) := by
  cases R with
  | nil =>
    rw [List.append_nil] at ho hl
    refine (ninsert_end v A x 0 q w ho (Nat.zero_le _) hl h1).mono ?_
    rintro e w' ⟨v', rfl, h2, h3, h4⟩
    refine ⟨v', rfl, h2, h3, ?_⟩
    rcases h4 with h | h
    · exact .inl h
    · exact .inr ⟨_, Nat.le_refl _, h⟩
  | cons y R =>
    rcases ho with ⟨_, h⟩ | ⟨g, cap, rfl, _, ho⟩
    · simp at h
    · have hn : (A ++ y :: R).length = A.length + R.length + 1 := by simp; omega
      by_cases hc : (A ++ y :: R).length + 1 ≤ cap
      · refine (ninsert_shift g cap A R y x _ q w ho hn hl hc h1 (fun e => hq (by rw [e]; rfl))).mono ?_
        rintro e w' ⟨rfl, h2, h3⟩
        exact ⟨_, rfl, .inr ⟨g, cap, by simp; omega, Nat.zero_le _, h2⟩, h3, .inl rfl⟩
      · refine (ninsert_grow g cap A R y x _ q w ho hn hl (by omega) h1).mono ?_
        rintro e w' ⟨cap', rfl, h2, h3⟩
        exact ⟨_, rfl, .inr ⟨w.heap.size, cap', by simp; omega, Nat.zero_le _, h2⟩, ⟨h3.os, h3.tape, h3.output, h3.size, fun k hk _ => h3.block k hk⟩, .inr ⟨_, Nat.le_refl _, rfl⟩⟩

end Go.Proofs.YtalnmhgedfgooaaGreatDoor

namespace Go.Proofs.YtalnmhgedfgooaaGreatDoor
open Go.RowKit

theorem iinfo0 : (Tryz.prog.info? 3).map (fun i => (i.zero, i.size, i.bytes)) = some (some (.int .i64 0), 1, 8) := by kernel_rfl
theorem iinfo : ∃ i0, Tryz.prog.info? 3 = some i0 ∧ i0.zero = some (.int .i64 0) ∧ i0.size = 1 ∧ i0.bytes = 8 := by
  obtain ⟨i0, h, e⟩ := Option.map_eq_some_iff.1 iinfo0
  simp only [Prod.mk.injEq] at e
  exact ⟨i0, h, e⟩

def iblank : List Value := [.int .i64 0]
set_option maxRecDepth 20000 in
theorem iclear1 (w : World) (ty : TypeId) (b o c : Nat) (hc : ∀ j, j < 1 → (w.cell? ⟨b, o + j, none⟩).isSome = true) (hf : ∀ j, j < 1 → w.frozen? ⟨b, o + j, none⟩ = false) :
    (Builtin.clear_ #[23] ty #[.slice (some ⟨b, o, none⟩) 1 c]).run Tryz.prog w = .ok (.tuple #[]) (w.setCells b o iblank) := by
  have hzc : (Builtin.zeroCells (Value.int .i64 0).cells 1).toList = iblank := by kernel_rfl
  have hst := run_storeCells_cells (P := Tryz.prog) b o iblank 0 w (fun j hj => hc j (by simpa [iblank] using hj)) (fun j hj => hf j (by simpa [iblank] using hj)) (by simp [iblank, Value.oneCell'])
  simp only [Nat.add_zero] at hst
  simp [Builtin.clear_, run_underlying Tryz.underlying23, hzc, hst]

set_option maxRecDepth 20000 in
set_option maxHeartbeats 1000000 in
theorem idelete_any (g cap : Nat) (A B : List Int) (f : Int) (n : Nat) (w : World) (ho : OwnR w g cap (A ++ f :: B)) (hn : n = A.length + B.length + 1) (hsm : n ≤ 2147483647) :
    Calls Tryz.prog 74 #[.slice (some ⟨g, 0, none⟩) n cap, .int .i64 A.length, .int .i64 (A.length + 1 : Nat)] w fun e w' =>
      e = .returned (.slice (some ⟨g, 0, none⟩) (A.length + B.length) cap) ∧ OwnR w' g cap (A ++ B) ∧ w.grownBy w' (some g) := by
  obtain ⟨i0, hi0, hz0, hz1, hz2⟩ := iinfo
  have hle := ho.le
  have hcl := ho.capLe
  simp only [maxLen] at hcl
  rw [List.length_append, List.length_cons] at hle
  have hrow := ho.row
  obtain ⟨AD, hAD, hsrc⟩ : ∃ AD : Addr, (if cap = A.length + 1 then some (⟨g, 0, none⟩ : Addr) else some ⟨g, (A.length + 1), none⟩) = some AD ∧ Hid (∀ t u, (cellsL B)[t]? = some u → w.drew.cell? (AD.add t) = some u) := by
    by_cases h : cap = A.length + 1
    · refine ⟨⟨g, 0, none⟩, by simp [h], fun t u hu => ?_⟩
      have h0 : B = [] := List.eq_nil_of_length_eq_zero (by omega)
      rw [h0] at hu
      simp [cellsL_nil] at hu
    · refine ⟨⟨g, (A.length + 1), none⟩, by simp [h], fun t u hu => ?_⟩
      rw [Addr.add_lit]
      have := hrow ((A.length + 1) + t) u (by
        rw [cellsL_append, List.getElem?_append_right (by rw [cellsI_length]; omega), cellsI_length, cellsL_cons, List.getElem?_append_right (by rw [Lay.len]; show 1 ≤ _; omega)]
        rw [Lay.len, ← hu]; congr 1; show _ - 1 = _; omega)
      rw [Nat.zero_add] at this
      exact this
  have s1 : Hid ((cellsL B).length = B.length * 1) := (cellsI_length B).trans (Nat.mul_one _).symm
  have s2 : Hid (∀ u ∈ cellsL B, u.oneCell' = true) := cellsL_one B
  have s3 : Hid (∀ t, t < (cellsL B).length → (w.drew.cell? ⟨g, 0 + A.length * 1 + t, none⟩).isSome = true ∧ w.drew.frozen? ⟨g, 0 + A.length * 1 + t, none⟩ = false) := by
    intro t ht
    rw [cellsI_length] at ht
    exact ⟨ho.someI (by omega), ho.frozen _⟩
  obtain ⟨W1, hW1⟩ : ∃ W1, W1 = w.drew.setCells g (0 + A.length * 1) (cellsL B) := ⟨_, rfl⟩
  have ho1 : OwnR W1 g cap (A ++ B) := by rw [hW1, Nat.zero_add, Nat.mul_one]; exact ho.drew.spliceI B (by omega)
  have hg1 : w.grownBy W1 (some g) := by rw [hW1]; have := ngrown_setCells (g := g) (cellsL B) (0 + A.length * 1) w.drew; exact ⟨this.os, this.tape, this.output, this.size, this.block⟩
  have hclr : ∀ ty c, (Builtin.clear_ #[23] ty #[.slice (some ⟨g, (A.length + B.length), none⟩) 1 c]).run Tryz.prog W1 = .ok (.tuple #[]) (W1.setCells g ((A.length + B.length)) iblank) := fun ty c =>
    iclear1 W1 ty g _ c (fun j hj => ho1.someI (by omega)) (fun j hj => ho1.frozen _)
  have FIN : Hid (OwnR (W1.setCells g ((A.length + B.length)) iblank) g cap (A ++ B) ∧ w.grownBy (W1.setCells g ((A.length + B.length)) iblank) (some g)) :=
    ⟨ho1.spareI iblank _ (by rw [List.length_append]; omega) (by simp [iblank]; omega), ngrown_trans hg1 (ngrown_setCells _ _ _)⟩
  have hW : Hid (W1 = w.drew.setCells g (0 + A.length * 1) (cellsL B)) := hW1
  have hic : A.length ≤ cap := by omega
  have hjc : A.length + 1 ≤ cap := by omega
  have hne : ¬ (cap = A.length + B.length) := by omega
  have hb1 : (0 : Int) ≤ (A.length : Int) + 1 := by omega
  have hb2 : (A.length : Int) ≤ (A.length : Int) + (B.length : Int) := by omega
  have hb3 : (0 : Int) ≤ (A.length : Int) + (B.length : Int) := by omega
  have hs1 : A.length + B.length + 1 - (A.length + B.length) = 1 := by omega
  clear hW1 ho1 hg1 hrow ho
  subst hn
  go_enter Tryz.func74, Tryz.ntmps74
  go_wp2_with fail
  go_region_law (refine step_append_room rfl (.tmp 22) (.tmp 25) 23 rfl 3 i0 1 Tryz.underlying23 hi0 hz1 g 0 A.length cap (by simp [Act.eval, Act.put]) AD B.length (cap - (A.length + 1)) (cellsL B) (by simp [Act.eval, Act.put]) s1.out hsrc.out s2.out (by omega) s3.out ?_; rw [← hW.out])
  go_wp2
  go_ret
  exact ⟨rfl, FIN.out⟩

theorem icopy3 (w : World) (ty : TypeId) (b o dLen dCap : Nat) (a : Addr) (sLen sCap : Nat) (cs : List Value) (hn : cs.length = Nat.min sLen dLen)
    (hsrc : ∀ j v, cs[j]? = some v → w.cell? (a.add j) = some v) (hc : ∀ j, j < cs.length → (w.cell? ⟨b, o + j, none⟩).isSome = true) (hf : ∀ j, j < cs.length → w.frozen? ⟨b, o + j, none⟩ = false) (h1 : ∀ v ∈ cs, v.oneCell' = true) :
    (Builtin.copy_ #[23, 23] ty #[.slice (some ⟨b, o, none⟩) dLen dCap, .slice (some a) sLen sCap]).run Tryz.prog w = .ok (goInt (Nat.min sLen dLen)) (w.setCells b o cs) := by
  have hl := run_loadCells_list (P := Tryz.prog) w a cs hsrc
  have hst := run_storeCells_cells (P := Tryz.prog) b o cs 0 w (by simpa using hc) (by simpa using hf) h1
  obtain ⟨i0, hi0, hz0, hz1, hz2⟩ := iinfo
  simp [Builtin.copy_, run_underlying Tryz.underlying23, Builtin.lenOf, Builtin.firstCells, sizeOf, typeInfo, hi0, hz1, ← hn, hl, hst]

set_option maxRecDepth 10000 in
set_option maxHeartbeats 1000000 in
/-- at the end -/
theorem iinsert_end (v : Value) (A : List Int) (x : Int) (B b : Nat) (w : World) (ho : OwnS w B v A) (hB : B ≤ w.heap.size) (hl : A.length ≤ 2147483647) (h1 : OneR w b x) :
    Calls Tryz.prog 73 #[v, .int .i64 A.length, .slice (some ⟨b, 0, none⟩) 1 1] w fun e w' =>
      ∃ v', e = .returned v' ∧ OwnS w' B v' (A ++ [x]) ∧ w.grownBy w' v.ownBlock ∧ (v'.ownBlock = v.ownBlock ∨ v'.ownBlock = some w.heap.size) := by
  obtain ⟨i0, hi0, hz0, hz1, hz2⟩ := iinfo
  have hrow := ho.row
  have HR := hide hrow
  have H1 := hide h1.row
  have V : ∃ a c, v = .slice a A.length c ∧ A.length ≤ c := by
    rcases ho with ⟨rfl, rfl⟩ | ⟨g, cap, rfl, _, h⟩
    · exact ⟨none, 0, rfl, Nat.le_refl _⟩
    · exact ⟨_, cap, rfl, h.le⟩
  obtain ⟨a, c, rfl, hc⟩ := V
  clear ho hrow h1
  rcases Nat.lt_or_ge A.length c with hcl | hcl
  · have hne : ¬ c = A.length := by omega
    go_enter Tryz.func73, Tryz.ntmps73
    go_wp2_with (at_builtin; refine wpList_append_own_at _ rfl _ _ 23 rfl B 3 i0 _ 1 8 Tryz.underlying23 hi0 hz0 hz1 hz2 rfl (by decide) _ A.length (cellsL A) rfl (unhide HR) ⟨b, 0, none⟩ 1 1 [Value.int .i64 x] rfl (by rfl) ?qc2 ((Lay.one x)) ?qc4 ?qc5 hB ?_)
    case qc2 =>
      intro j u hj
      rw [Addr.add_lit]
      exact unhide H1 j u hj
    case qc4 => simp only [maxLen]; omega
    case qc5 => omega
    intro v' w1 hown hgrow _ hloc
    go_wp2
    go_ret
    exact ⟨v', rfl, OwnS.of_row (by rw [List.length_append, cellsL_snoc]; exact hown), hgrow, hloc⟩
  · obtain rfl : c = A.length := by omega
    go_enter Tryz.func73, Tryz.ntmps73
    go_wp2_with (at_builtin; refine wpList_append_own_at _ rfl _ _ 23 rfl B 3 i0 _ 1 8 Tryz.underlying23 hi0 hz0 hz1 hz2 rfl (by decide) _ A.length (cellsL A) rfl (unhide HR) ⟨b, 0, none⟩ 1 1 [Value.int .i64 x] rfl (by rfl) ?qc2 ((Lay.one x)) ?qc4 ?qc5 hB ?_)
    case qc2 =>
      intro j u hj
      rw [Addr.add_lit]
      exact unhide H1 j u hj
    case qc4 => simp only [maxLen]; omega
    case qc5 => omega
    intro v' w1 hown hgrow _ hloc
    go_wp2
    go_ret
    exact ⟨v', rfl, OwnS.of_row (by rw [List.length_append, cellsL_snoc]; exact hown), hgrow, hloc⟩

set_option maxRecDepth 10000 in
set_option maxHeartbeats 2000000 in
/-- there is room -/
theorem iinsert_shift (g cap : Nat) (A R : List Int) (y x : Int) (n b : Nat) (w : World) (ho : OwnR w g cap (A ++ y :: R)) (hn : n = A.length + R.length + 1) (hsm : n ≤ 2147483647) (hroom : n + 1 ≤ cap) (h1 : OneR w b x) (hbg : b ≠ g) :
    Calls Tryz.prog 73 #[.slice (some ⟨g, 0, none⟩) n cap, .int .i64 A.length, .slice (some ⟨b, 0, none⟩) 1 1] w fun e w' =>
      e = .returned (.slice (some ⟨g, 0, none⟩) (n + 1) cap) ∧ OwnR w' g cap (A ++ x :: y :: R) ∧ w.grownBy w' (some g) := by
  have hcl := ho.capLe
  simp only [maxLen] at hcl
  have hrow := ho.row
  have hshg : w.shape? g = some (3, cap) := by
    obtain ⟨rest, q1, q2, _⟩ := ho
    rw [List.length_append, List.length_cons, show Lay.k Int = 1 from rfl, Nat.mul_one, Nat.mul_one] at q2
    simp [World.shape?, q1, cellsI_length]
    exact ⟨rfl, q2⟩
  have hshb : w.shape? b = some (3, 1) := by unfold OneR at h1; simp [World.shape?, h1]; exact ⟨rfl, rfl⟩
  have hfb : ∀ j, w.frozen? ⟨b, j, none⟩ = false := fun j => by unfold OneR at h1; simp [World.frozen?, h1]
  have hov : ∀ lb cb, (callFunc 90 #[.slice (some ⟨b, 0, none⟩) 1 1, .slice (some ⟨g, (A.length + 1), none⟩) lb cb]).run Tryz.prog w = .ok (.value (.bool false)) w := fun lb cb => by
    rw [run_callFunc_extern Tryz.func90 (by kernel_rfl) (by kernel_rfl) (by kernel_rfl) (e := Extern.SlicesOverlaps.overlaps #[23, 23] #[4]) (by kernel_rfl),
      Lib.run_overlaps_apart w 23 4 3 Tryz.underlying23 1 Tryz.sizeOf3 ⟨b, 0, none⟩ ⟨g, (A.length + 1), none⟩ 1 1 lb cb hbg 3 3 1 cap hshb hshg (by omega) (hfb 0) (hfb 1)]
    rfl
  obtain ⟨W1, hW1⟩ : ∃ W1, W1 = w.drew.setCells g ((A.length + 1)) (cellsL (y :: R)) := ⟨_, rfl⟩
  have ho1 : OwnR W1 g cap (A ++ y :: y :: R) := by
    have h : OwnR w.drew g cap ((A ++ [y]) ++ R) := by rw [List.append_assoc]; exact ho
    have := h.spliceI (y :: R) (by simp; omega)
    rw [hW1]
    simpa using this
  have hg1 : w.grownBy W1 (some g) := by rw [hW1]; have := ngrown_setCells (g := g) (cellsL (y :: R)) ((A.length + 1)) w.drew; exact ⟨this.os, this.tape, this.output, this.size, this.block⟩
  have hcp1 : ∀ ty dc sc, (Builtin.copy_ #[23, 23] ty #[.slice (some ⟨g, (A.length + 1), none⟩) (n - A.length) dc, .slice (some ⟨g, A.length, none⟩) (n + 1 - A.length) sc]).run Tryz.prog w.drew = .ok (goInt (Nat.min (n + 1 - A.length) (n - A.length))) W1 := fun ty dc sc => by
    rw [hW1]
    exact icopy3 w.drew ty g _ _ dc ⟨g, A.length, none⟩ _ sc (cellsL (y :: R)) (by rw [cellsI_length]; simp only [Nat.min_def, List.length_cons]; split <;> omega)
      (fun j v hj => by
        rw [Addr.add_lit]
        have := hrow (A.length + j) v (by rw [cellsL_append, List.getElem?_append_right (by rw [cellsI_length]; omega), cellsI_length, Nat.add_sub_cancel_left]; exact hj)
        rw [Nat.zero_add] at this
        exact this)
      (fun j hj => by rw [cellsI_length] at hj; exact ho.someI (by simp at hj; omega)) (fun j _ => ho.frozen _) (cellsL_one _)
  have hcp2 : ∀ ty dc, (Builtin.copy_ #[23, 23] ty #[.slice (some ⟨g, A.length, none⟩) (n + 1 - A.length) dc, .slice (some ⟨b, 0, none⟩) 1 1]).run Tryz.prog W1 = .ok (goInt (Nat.min 1 (n + 1 - A.length))) (W1.setCells g (A.length) [Value.int .i64 x]) := fun ty dc =>
    icopy3 W1 ty g _ _ dc ⟨b, 0, none⟩ 1 1 [Value.int .i64 x] (by simp only [Nat.min_def, List.length_cons, List.length_nil]; split <;> omega)
      (fun j v hj => by
        rw [Addr.add_lit]
        have hb2 : W1.heap[b]? = w.heap[b]? := hg1.block b (by unfold OneR at h1; exact (Array.getElem?_eq_some_iff.1 h1).1) (fun e => hbg (Option.some.inj e))
        have h2 : OneR W1 b x := hb2.trans h1
        exact h2.row j v hj)
      (fun j hj => ho1.someI (by simp at hj; omega)) (fun j _ => ho1.frozen _) ((Lay.one x))
  have FIN : Hid (OwnR (W1.setCells g (A.length) [Value.int .i64 x]) g cap (A ++ x :: y :: R) ∧ w.grownBy (W1.setCells g (A.length) [Value.int .i64 x]) (some g)) :=
    ⟨ho1.swapI x, ngrown_trans hg1 (ngrown_setCells _ _ _)⟩
  have hin : A.length < n := by omega
  have hini : (A.length : Int) < (n : Int) := by omega
  have hw1 : IntKind.i64.wrap ((A.length : Int) + 1) = (A.length : Int) + 1 := by rw [IntKind.wrap_i64]; omega
  have hb1 : (0 : Int) ≤ (A.length : Int) + 1 := by omega
  have hb2 : ¬ (cap = A.length + 1) := by omega
  have hb3 : (A.length : Int) ≤ (n : Int) + 1 := by omega
  have hb4 : ¬ (cap = A.length) := by omega
  have hb5 : (A.length : Int) + 1 ≤ (n : Int) + 1 := by omega
  have hb6 : ¬ ((cap : Int) < (n : Int) + 1) := by omega
  have hz2 : ¬ ((A.length : Int) = (n : Int)) := by omega
  have htn : ((A.length : Int) + 1).toNat = A.length + 1 := by omega
  clear hW1 ho1 hg1 hrow hshg hshb hfb ho h1 hn
  go_enter Tryz.func73, Tryz.ntmps73
  go_wp2_with (simp only [hov])
  go_region_law (refine step_copy_runN rfl (.tmp 73) (.tmp 76) 23 23 rfl (.slice (some ⟨g, (A.length + 1), none⟩) (n - A.length) (cap - (A.length + 1))) (.slice (some ⟨g, A.length, none⟩) (n + 1 - A.length) (cap - A.length)) (by simp [Act.eval, Act.put]) (by simp [Act.eval, Act.put]) (hcp1 _ _ _) ?_)
  go_wp2_with (at_builtin; refine wpList_copy_runN _ rfl _ _ 23 23 rfl _ _ rfl rfl (hcp2 _ _) ?_)
  go_ret
  exact ⟨rfl, FIN.out⟩

theorem izeros (k : Nat) : (Builtin.zeroCells (Value.int .i64 0).cells k).size = k := by
  simp [Builtin.zeroCells, Value.cells]

set_option maxRecDepth 10000 in
set_option maxHeartbeats 2000000 in
/-- there is no room -/
theorem iinsert_grow (g cap : Nat) (A R : List Int) (y x : Int) (n b : Nat) (w : World) (ho : OwnR w g cap (A ++ y :: R)) (hn : n = A.length + R.length + 1) (hsm : n ≤ 2147483647) (hroom : cap < n + 1) (h1 : OneR w b x) :
    Calls Tryz.prog 73 #[.slice (some ⟨g, 0, none⟩) n cap, .int .i64 A.length, .slice (some ⟨b, 0, none⟩) 1 1] w fun e w' =>
      ∃ cap', e = .returned (.slice (some ⟨w.heap.size, 0, none⟩) (n + 1) cap') ∧ OwnR w' w.heap.size cap' (A ++ x :: y :: R) ∧ Below w.heap.size w w' := by
  have hcap : cap = n := by have := ho.le; simp at this; omega
  obtain ⟨i0, hi0, hz0, hz1, hz2⟩ := iinfo
  have hrow := ho.row
  have hgw := ho.lt
  have hbw : b < w.heap.size := by unfold OneR at h1; exact (Array.getElem?_eq_some_iff.1 h1).1
  have hold : (Builtin.firstCells i0.size A.length (.slice (some ⟨g, 0, none⟩) A.length cap)).run Tryz.prog w.drew = .ok (cellsL A).toArray w.drew := by
    rw [hz1]
    exact run_firstCells_some w.drew 1 A.length ⟨g, 0, none⟩ A.length cap (cellsL A) ((cellsI_length A).trans (Nat.mul_one _).symm) (fun j v hj => by
      rw [Addr.add_lit]
      exact hrow j v (by rw [cellsL_append, List.getElem?_append_left (List.getElem?_eq_some_iff.1 hj).1]; exact hj))
  obtain ⟨G, hG⟩ : ∃ G, G = grownCap w (n + 1) cap 3 := ⟨_, rfl⟩
  have hGn : n + 1 ≤ G := by rw [hG]; exact grownCap_ge w _ _ _
  have hGm : G ≤ maxLen := by rw [hG]; exact grownCap_le_maxLen w (n + 1) cap _ (by unfold maxLen; omega)
  have hG63 : G ≤ 9223372036854775807 := by have := hGm; unfold maxLen at this; omega
  obtain ⟨ROW, hROW⟩ : ∃ ROW : Array Value, ROW = (cellsL A).toArray ++ Builtin.zeroCells (Value.int .i64 0).cells (n + 1 - A.length) ++ Builtin.zeroCells (Value.int .i64 0).cells (G - (n + 1)) := ⟨_, rfl⟩
  obtain ⟨W1, hW1⟩ : ∃ W1, W1 = w.drew.alloc (.cells ROW 3) := ⟨_, rfl⟩
  have hik : A.length + (n + 1 - A.length) = n + 1 := by omega
  have hrz : ∀ ty, (Builtin.append_ #[23, 3] ty #[.slice (some ⟨g, 0, none⟩) A.length cap, .int .i64 ((n : Int) + 1 - (A.length : Int))]).run Tryz.prog w =
      .ok (.slice (some ⟨w.heap.size, 0, none⟩) (n + 1) G) W1 := fun ty => by
    have h := Lib.run_append_grow_zeros w 23 3 ty 3 i0 _ .i64 .i64 Tryz.underlying23 Tryz.underlying3 hi0 hz0 (some ⟨g, 0, none⟩) A.length cap (cellsL A) hold (n + 1 - A.length) (by omega) (by omega) (by omega) (by omega) (by rw [hz2]; omega) (by rw [hz2, hik]; exact growslice_fits hroom (by omega))
    rw [hik, ← hG, ← hROW, ← hW1] at h
    rw [show (n : Int) + 1 - (A.length : Int) = ((n + 1 - A.length : Nat) : Int) by omega]
    exact h
  have ho1 : OwnR W1 w.heap.size G A := by
    refine ⟨(Builtin.zeroCells (Value.int .i64 0).cells (n + 1 - A.length) ++ Builtin.zeroCells (Value.int .i64 0).cells (G - (n + 1))).toList, ?_, ?_, by omega, hGm⟩
    · rw [hW1, hROW]
      have := heap_alloc_new w.drew (.cells ((cellsL A).toArray ++ Builtin.zeroCells (Value.int .i64 0).cells (n + 1 - A.length) ++ Builtin.zeroCells (Value.int .i64 0).cells (G - (n + 1))) 3)
      refine Eq.trans this ?_
      congr 2
      apply Array.toList_inj.1
      simp
    · simp only [show Lay.k Int = 1 from rfl, Array.length_toList, Array.size_append, izeros, Nat.mul_one]; omega
  have hB1 : Below w.heap.size w W1 := by rw [hW1]; exact ((Below.refl _ w).drew).alloc (Nat.le_refl _) _
  obtain ⟨W2, hW2⟩ : ∃ W2, W2 = W1.setCells w.heap.size (A.length) [Value.int .i64 x] := ⟨_, rfl⟩
  have ho2 : OwnR W2 w.heap.size G (A ++ [x]) := by
    have h : OwnR W1 w.heap.size G (A ++ []) := by rw [List.append_nil]; exact ho1
    have := h.spliceI [x] (by simp; omega)
    rw [hW2]
    rw [cellsL_cons, cellsL_nil, List.append_nil] at this
    exact this
  have hg2 : W1.grownBy W2 (some w.heap.size) := by rw [hW2]; exact ngrown_setCells _ _ _
  have hB2 : Below w.heap.size w W2 := hB1.grown hg2 hB1.size (fun k e => by cases e; exact Nat.le_refl _)
  have hcpA : ∀ ty dc, (Builtin.copy_ #[23, 23] ty #[.slice (some ⟨w.heap.size, A.length, none⟩) (n + 1 - A.length) dc, .slice (some ⟨b, 0, none⟩) 1 1]).run Tryz.prog W1 = .ok (goInt (Nat.min 1 (n + 1 - A.length))) W2 := fun ty dc => by
    rw [hW2]
    exact icopy3 W1 ty w.heap.size _ _ dc ⟨b, 0, none⟩ 1 1 [Value.int .i64 x] (by simp only [Nat.min_def, List.length_cons, List.length_nil]; split <;> omega)
      (fun j v hj => by rw [Addr.add_lit]; exact (show OneR W1 b x from (hB1.block b hbw).trans h1).row j v hj)
      (fun j hj => ho1.someI (by simp at hj; omega)) (fun j _ => ho1.frozen _) ((Lay.one x))
  obtain ⟨W3, hW3⟩ : ∃ W3, W3 = W2.drew.setCells w.heap.size ((A.length + 1)) (cellsL (y :: R)) := ⟨_, rfl⟩
  have hcpB : ∀ ty dc sc, (Builtin.copy_ #[23, 23] ty #[.slice (some ⟨w.heap.size, (A.length + 1), none⟩) (n - A.length) dc, .slice (some ⟨g, A.length, none⟩) (n - A.length) sc]).run Tryz.prog W2.drew = .ok (goInt (Nat.min (n - A.length) (n - A.length))) W3 := fun ty dc sc => by
    rw [hW3]
    exact icopy3 W2.drew ty w.heap.size _ _ dc ⟨g, A.length, none⟩ _ sc (cellsL (y :: R)) (by rw [cellsI_length]; simp only [Nat.min_self, List.length_cons]; omega)
      (fun j v hj => by
        rw [Addr.add_lit]
        have := hrow (A.length + j) v (by rw [cellsL_append, List.getElem?_append_right (by rw [cellsI_length]; omega), cellsI_length, Nat.add_sub_cancel_left]; exact hj)
        rw [Nat.zero_add] at this
        exact (hB2.cell (p := ⟨g, A.length + j, none⟩) hgw).trans this)
      (fun j hj => by rw [cellsI_length] at hj; exact ho2.drew.someI (by simp at hj; omega)) (fun j _ => ho2.drew.frozen _) (cellsL_one _)
  have FIN : Hid (OwnR W3 w.heap.size G (A ++ x :: y :: R) ∧ Below w.heap.size w W3) := by
    refine ⟨?_, ?_⟩
    · have h : OwnR W2.drew w.heap.size G ((A ++ [x]) ++ []) := by rw [List.append_nil]; exact ho2
      have := h.spliceI (y :: R) (by simp; omega)
      rw [hW3]
      simpa using this
    · rw [hW3]; exact hB2.drew.grown (ngrown_setCells _ _ _) hB2.size (fun k e => by cases e; exact Nat.le_refl _)
  have hin : A.length < n := by omega
  have hini : (A.length : Int) < (n : Int) := by omega
  have hw1 : IntKind.i64.wrap ((A.length : Int) + 1) = (A.length : Int) + 1 := by rw [IntKind.wrap_i64]; omega
  have hb1 : (0 : Int) ≤ (A.length : Int) + 1 := by omega
  have hb2 : ¬ (G = A.length + 1) := by omega
  have hb3 : (A.length : Int) ≤ (n : Int) + 1 := by omega
  have hb4 : ¬ (n = A.length) := by omega
  have hb5 : (A.length : Int) + 1 ≤ (n : Int) + 1 := by omega
  have hb6 : ¬ (G = A.length) := by omega
  have hb7 : (A.length : Int) ≤ (n : Int) := by omega
  have hz3 : ¬ ((A.length : Int) = (n : Int)) := by omega
  have htn : ((A.length : Int) + 1).toNat = A.length + 1 := by omega
  subst hcap
  clear hn hROW hW1 hW2 hW3 hG hrow ho h1 ho1 ho2 hB1 hB2 hg2 hold hik
  go_enter Tryz.func73, Tryz.ntmps73
  go_wp2_with (first
    | (at_builtin; refine Lib.wpList_append_run _ rfl _ _ _ _ rfl _ _ rfl rfl _ _ (hrz _) ?_)
    | (at_builtin; refine wpList_copy_runN _ rfl _ _ 23 23 rfl _ _ rfl rfl (hcpA _ _) ?_))
  go_region_law (refine step_copy_runN rfl (.tmp 50) (.tmp 53) 23 23 rfl (.slice (some ⟨w.heap.size, (A.length + 1), none⟩) (cap - A.length) (G - (A.length + 1))) (.slice (some ⟨g, A.length, none⟩) (cap - A.length) (cap - A.length)) (by simp [Act.eval, Act.put]) (by simp [Act.eval, Act.put]) (hcpB _ _ _) ?_)
  go_wp2
  go_ret
  exact ⟨G, rfl, FIN.out⟩

theorem iinsert_any (v : Value) (A R : List Int) (x : Int) (q : Nat) (w : World) (ho : OwnS w 0 v (A ++ R)) (hl : (A ++ R).length ≤ 2147483647) (h1 : OneR w q x) (hq : v.ownBlock ≠ some q) :
    Calls Tryz.prog 73 #[v, .int .i64 A.length, .slice (some ⟨q, 0, none⟩) 1 1] w fun e w' =>
      ∃ v', e = .returned v' ∧ OwnS w' 0 v' (A ++ x :: R) ∧ w.grownBy w' v.ownBlock ∧ (v'.ownBlock = v.ownBlock ∨ ∃ k, w.heap.size ≤ k ∧ v'.ownBlock = some k) := by
  cases R with
  | nil =>
    rw [List.append_nil] at ho hl
    refine (iinsert_end v A x 0 q w ho (Nat.zero_le _) hl h1).mono ?_
    rintro e w' ⟨v', rfl, h2, h3, h4⟩
    refine ⟨v', rfl, h2, h3, ?_⟩
    rcases h4 with h | h
    · exact .inl h
    · exact .inr ⟨_, Nat.le_refl _, h⟩
  | cons y R =>
    rcases ho with ⟨_, h⟩ | ⟨g, cap, rfl, _, ho⟩
    · simp at h
    · have hn : (A ++ y :: R).length = A.length + R.length + 1 := by simp; omega
      by_cases hc : (A ++ y :: R).length + 1 ≤ cap
      · refine (iinsert_shift g cap A R y x _ q w ho hn hl hc h1 (fun e => hq (by rw [e]; rfl))).mono ?_
        rintro e w' ⟨rfl, h2, h3⟩
        exact ⟨_, rfl, .inr ⟨g, cap, by simp; omega, Nat.zero_le _, h2⟩, h3, .inl rfl⟩
      · refine (iinsert_grow g cap A R y x _ q w ho hn hl (by omega) h1).mono ?_
        rintro e w' ⟨cap', rfl, h2, h3⟩
        exact ⟨_, rfl, .inr ⟨w.heap.size, cap', by simp; omega, Nat.zero_le _, h2⟩, ⟨h3.os, h3.tape, h3.output, h3.size, fun k hk _ => h3.block k hk⟩, .inr ⟨_, Nat.le_refl _, rfl⟩⟩

end Go.Proofs.YtalnmhgedfgooaaGreatDoor

namespace Go.Proofs.YtalnmhgedfgooaaGreatDoor
open Go.RowKit

theorem nclone_any (s : List UInt8) (w : World) (hs : s.length ≤ 281474976710656) :
    Calls Tryz.prog 68 #[.string ⟨s.toArray⟩] w fun e w' => e = .returned (.string ⟨s.toArray⟩) ∧ Below w.heap.size w w' := clone_any ⟨s.toArray⟩ w hs
theorem OneR.cellN {W : World} {b : Nat} {n : Nd} (h : OneR W b n) (j : Nat) (v : Value) (hj : (ncells n)[j]? = some v) : W.cell? ⟨b, j, none⟩ = some v := by
  have := h.row j v hj
  rwa [Nat.zero_add] at this
theorem OneR.frozenN {W : World} {b : Nat} {n : Nd} (h : OneR W b n) (j : Nat) : W.frozen? ⟨b, j, none⟩ = false := by
  unfold OneR at h
  simp [World.frozen?, h]
theorem OneR.keptN {W V : World} {b : Nat} {n : Nd} (h : OneR W b n) (hb : Below W.heap.size W V) : OneR V b n := by
  unfold OneR at h ⊢
  exact (hb.block _ (Array.getElem?_eq_some_iff.1 h).1).trans h
def nzero : Nd := ⟨[], [], 0, 0, 0, 0, 0, 0, 0⟩

set_option maxRecDepth 20000 in
set_option maxHeartbeats 1000000 in
theorem tcopied_any (n : Nd) (w : World) (hp : n.p.length ≤ 140737488355328) (hd : n.d.length ≤ 140737488355328) :
    Calls Tryz.prog 39 #[nodeV n] w fun e w' => e = .returned (nodeV n) ∧ Below w.heap.size w w' := by
  have C1 := fun W => nclone_any n.p W (by omega)
  have C2 := fun W => nclone_any n.d W (by omega)
  have X0 : ∀ W, W = (w.alloc (.cells (ncells n).toArray 46)).alloc (.cells (ncells nzero).toArray 46) → OneR W w.heap.size n ∧ OneR W (w.heap.size + 1) nzero ∧ Below w.heap.size w W := by
    rintro W rfl
    refine ⟨?_, ?_, ((Below.refl _ _).alloc (Nat.le_refl _) _).alloc (by simp) _⟩
    · unfold OneR
      exact (((Below.refl (w.heap.size + 1) (w.alloc (.cells (ncells n).toArray 46))).alloc (by simp) (.cells (ncells nzero).toArray 46)).block _ (by omega)).trans (heap_alloc_new w _)
    · have := heap_alloc_new (w.alloc (.cells (ncells n).toArray 46)) (.cells (ncells nzero).toArray 46)
      rw [show (w.alloc (.cells (ncells n).toArray 46)).heap.size = w.heap.size + 1 by simp] at this
      exact this
  have X := hide X0
  clear X0
  unfold nodeV
  go_enter Tryz.func39, Tryz.ntmps39
  go_wp2_with fail
  generalize hW0 : (w.alloc _).alloc _ = W0
  obtain ⟨x1, x2, x3⟩ := unhide X W0 hW0.symm
  clear hW0 X
  refine (C1 _).mono ?_
  rintro e w1 ⟨rfl, hb1⟩
  have y1 := x1.keptN hb1
  have e0 := y1.cellN 0 _ rfl
  have e1 := y1.cellN 1 _ rfl
  have f0 := y1.frozenN 0
  have hs0 := nset_same e0
  have Y1 := hide y1
  have Y2 := hide (x2.keptN hb1)
  have B1 := hide (nnext x3 hb1)
  clear y1 x1 x2 x3 hb1 C1
  go_wp2_with fail
  refine (C2 _).mono ?_
  rintro e w2 ⟨rfl, hb2⟩
  have y1 := (unhide Y1).keptN hb2
  have y2 := (unhide Y2).keptN hb2
  have B2 := hide (nnext (unhide B1) hb2)
  clear e0 e1 f0 hs0 C2 hb2 Y1 Y2
  have c0 := y1.cellN 0 _ rfl
  have c1 := y1.cellN 1 _ rfl
  have c2 := y1.cellN 2 _ rfl
  have c3 := y1.cellN 3 _ rfl
  have c4 := y1.cellN 4 _ rfl
  have c5 := y1.cellN 5 _ rfl
  have c6 := y1.cellN 6 _ rfl
  have c7 := y1.cellN 7 _ rfl
  have c8 := y1.cellN 8 _ rfl
  have d0 := y2.cellN 0 _ rfl
  have d1 := y2.cellN 1 _ rfl
  have d2 := y2.cellN 2 _ rfl
  have d3 := y2.cellN 3 _ rfl
  have d4 := y2.cellN 4 _ rfl
  have d5 := y2.cellN 5 _ rfl
  have d6 := y2.cellN 6 _ rfl
  have d7 := y2.cellN 7 _ rfl
  have d8 := y2.cellN 8 _ rfl
  have f1 := y1.frozenN 1
  have g0 := y2.frozenN 0
  have g1 := y2.frozenN 1
  have g2 := y2.frozenN 2
  have g3 := y2.frozenN 3
  have g4 := y2.frozenN 4
  have g5 := y2.frozenN 5
  have g6 := y2.frozenN 6
  have g7 := y2.frozenN 7
  have g8 := y2.frozenN 8
  have hs1 := nset_same c1
  have hne : w.heap.size ≠ w.heap.size + 1 := by omega
  clear y1 y2
  go_wp2_with fail
  have BB := unhide B2
  exact bodyPost_ret (v := nodeV n) (by simp [results, Tryz.results39, go_sem, nodeV, d0, d1, d2, d3, d4, d5, d6, d7, d8]) rfl
    ⟨rfl, ((((((((BB.setCell (by simp) _).setCell (by simp) _).setCell (by simp) _).setCell (by simp) _).setCell (by simp) _).setCell (by simp) _).setCell (by simp) _).setCell (by simp) _).setCell (by simp) _⟩

end Go.Proofs.YtalnmhgedfgooaaGreatDoor

namespace Go.Proofs.YtalnmhgedfgooaaGreatDoor
open Go.RowKit

/-- block b is a growth -/
structure Grow (W : World) (F : Nat → Prop) (b : Nat) (z : Int) (vn vs ve : Value) (ns : List Nd) (ss : List Int) (es : List Ev) : Prop where
  blk : W.heap[b]? = some (.cells #[.int .i64 z, vn, vs, ve] 69 (0, 0))
  fb : F b
  n : OwnS W 0 vn ns
  s : OwnS W 0 vs ss
  e : OwnS W 0 ve es
  fn : ∀ k, vn.ownBlock = some k → F k ∧ k ≠ b
  fs : ∀ k, vs.ownBlock = some k → F k ∧ k ≠ b
  fe : ∀ k, ve.ownBlock = some k → F k ∧ k ≠ b
  an : ∀ k, vn.ownBlock = some k → vs.ownBlock ≠ some k ∧ ve.ownBlock ≠ some k
  asn : ∀ k, vs.ownBlock = some k → ve.ownBlock ≠ some k
theorem Grow.lt {W : World} {F : Nat → Prop} {b : Nat} {z : Int} {vn vs ve : Value} {ns : List Nd} {ss : List Int} {es : List Ev} (h : Grow W F b z vn vs ve ns ss es) : b < W.heap.size := (Array.getElem?_eq_some_iff.1 h.blk).1
theorem Grow.next {W V : World} {F : Nat → Prop} {b : Nat} {z : Int} {vn vs ve : Value} {ns : List Nd} {ss : List Int} {es : List Ev} (h : Grow W F b z vn vs ve ns ss es) (hb : Below W.heap.size W V) : Grow V F b z vn vs ve ns ss es :=
  ⟨(hb.block _ h.lt).trans h.blk, h.fb, h.n.next hb, h.s.next hb, h.e.next hb, h.fn, h.fs, h.fe, h.an, h.asn⟩
theorem Grow.drew {W : World} {F : Nat → Prop} {b : Nat} {z : Int} {vn vs ve : Value} {ns : List Nd} {ss : List Int} {es : List Ev} (h : Grow W F b z vn vs ve ns ss es) : Grow W.drew F b z vn vs ve ns ss es := h.next (Below.refl _ _).drew
theorem Grow.cut {W : World} {F G : Nat → Prop} {b : Nat} {z : Int} {vn vs ve : Value} {ns : List Nd} {ss : List Int} {es : List Ev} (h : Grow W F b z vn vs ve ns ss es) (hg : ∀ k, k < W.heap.size → F k → G k) : Grow W G b z vn vs ve ns ss es :=
  ⟨h.blk, hg b h.lt h.fb, h.n, h.s, h.e, fun k hk => ⟨hg k (h.n.low k hk) (h.fn k hk).1, (h.fn k hk).2⟩, fun k hk => ⟨hg k (h.s.low k hk) (h.fs k hk).1, (h.fs k hk).2⟩, fun k hk => ⟨hg k (h.e.low k hk) (h.fe k hk).1, (h.fe k hk).2⟩, h.an, h.asn⟩
theorem Grow.c0 {W : World} {F : Nat → Prop} {b : Nat} {z : Int} {vn vs ve : Value} {ns : List Nd} {ss : List Int} {es : List Ev} (h : Grow W F b z vn vs ve ns ss es) : W.cell? ⟨b, 0, none⟩ = some (.int .i64 z) := by simp [World.cell?, h.blk]
theorem Grow.c1 {W : World} {F : Nat → Prop} {b : Nat} {z : Int} {vn vs ve : Value} {ns : List Nd} {ss : List Int} {es : List Ev} (h : Grow W F b z vn vs ve ns ss es) : W.cell? ⟨b, 1, none⟩ = some vn := by simp [World.cell?, h.blk]
theorem Grow.c2 {W : World} {F : Nat → Prop} {b : Nat} {z : Int} {vn vs ve : Value} {ns : List Nd} {ss : List Int} {es : List Ev} (h : Grow W F b z vn vs ve ns ss es) : W.cell? ⟨b, 2, none⟩ = some vs := by simp [World.cell?, h.blk]
theorem Grow.c3 {W : World} {F : Nat → Prop} {b : Nat} {z : Int} {vn vs ve : Value} {ns : List Nd} {ss : List Int} {es : List Ev} (h : Grow W F b z vn vs ve ns ss es) : W.cell? ⟨b, 3, none⟩ = some ve := by simp [World.cell?, h.blk]
theorem Grow.fz {W : World} {F : Nat → Prop} {b : Nat} {z : Int} {vn vs ve : Value} {ns : List Nd} {ss : List Int} {es : List Ev} (h : Grow W F b z vn vs ve ns ss es) (j : Nat) : W.frozen? ⟨b, j, none⟩ = false := by simp [World.frozen?, h.blk]
/-- new events -/
theorem Grow.ev {W V : World} {F : Nat → Prop} {b : Nat} {z : Int} {vn vs ve ve' : Value} {ns : List Nd} {ss : List Int} {es es' : List Ev} (h : Grow W F b z vn vs ve ns ss es) (hF : ∀ k, W.heap.size ≤ k → F k) (hg : W.grownBy V ve.ownBlock) (he : OwnS V 0 ve' es') (hl : ve'.ownBlock = ve.ownBlock ∨ ve'.ownBlock = some W.heap.size) :
    Grow (V.setCell ⟨b, 3, none⟩ ve') F b z vn vs ve' ns ss es' := by
  have hbe : some b ≠ ve.ownBlock := fun e => (h.fe b e.symm).2 rfl
  have hb := h.lt
  have hne : ∀ k, ve'.ownBlock = some k → F k ∧ k ≠ b ∧ vn.ownBlock ≠ some k ∧ vs.ownBlock ≠ some k := by
    intro k hk
    rcases hl with e | e
    · rw [e] at hk
      exact ⟨(h.fe k hk).1, (h.fe k hk).2, fun hn => (h.an k hn).2 hk, fun hs => h.asn k hs hk⟩
    · rw [e] at hk
      cases hk
      exact ⟨hF _ (Nat.le_refl _), by omega, fun hn => by have := h.n.low _ hn; omega, fun hs => by have := h.s.low _ hs; omega⟩
  refine ⟨?_, h.fb, ?_, ?_, ?_, h.fn, h.fs, fun k hk => ⟨(hne k hk).1, (hne k hk).2.1⟩, fun k hk => ⟨(h.an k hk).1, fun e => (hne k e).2.2.1 hk⟩, fun k hk e => (hne k e).2.2.2 hk⟩
  · rw [block_set ve' ((hg.block b hb hbe).trans h.blk)]
    rfl
  · exact (h.n.grown hg (fun k hk e => (h.an k hk).2 e.symm)).other (fun e => (h.fn b e).2 rfl) _
  · exact (h.s.grown hg (fun k hk e => h.asn k hk e.symm)).other (fun e => (h.fs b e).2 rfl) _
  · exact he.other (fun e => (hne b e).2.1 rfl) _
/-- new nodes -/
theorem Grow.nd {W V : World} {F : Nat → Prop} {b : Nat} {z : Int} {vn vs ve vn' : Value} {ns ns' : List Nd} {ss : List Int} {es : List Ev} (h : Grow W F b z vn vs ve ns ss es) (hF : ∀ k, W.heap.size ≤ k → F k) (hg : W.grownBy V vn.ownBlock) (hn' : OwnS V 0 vn' ns') (hl : vn'.ownBlock = vn.ownBlock ∨ ∃ k, W.heap.size ≤ k ∧ vn'.ownBlock = some k) :
    Grow (V.setCell ⟨b, 1, none⟩ vn') F b z vn' vs ve ns' ss es := by
  have hbn : some b ≠ vn.ownBlock := fun e => (h.fn b e.symm).2 rfl
  have hb := h.lt
  have hne : ∀ k, vn'.ownBlock = some k → F k ∧ k ≠ b ∧ vs.ownBlock ≠ some k ∧ ve.ownBlock ≠ some k := by
    intro k hk
    rcases hl with e | ⟨j, hj, e⟩
    · rw [e] at hk
      exact ⟨(h.fn k hk).1, (h.fn k hk).2, (h.an k hk).1, (h.an k hk).2⟩
    · rw [e] at hk
      cases hk
      exact ⟨hF _ hj, by omega, fun hs => by have := h.s.low _ hs; omega, fun hs => by have := h.e.low _ hs; omega⟩
  refine ⟨?_, h.fb, ?_, ?_, ?_, fun k hk => ⟨(hne k hk).1, (hne k hk).2.1⟩, h.fs, h.fe, fun k hk => (hne k hk).2.2, h.asn⟩
  · rw [block_set vn' ((hg.block b hb hbn).trans h.blk)]
    rfl
  · exact hn'.other (fun e => (hne b e).2.1 rfl) _
  · exact (h.s.grown hg (fun k hk e => (h.an k e.symm).1 hk)).other (fun e => (h.fs b e).2 rfl) _
  · exact (h.e.grown hg (fun k hk e => (h.an k e.symm).2 hk)).other (fun e => (h.fe b e).2 rfl) _
/-- new sessions -/
theorem Grow.se {W V : World} {F : Nat → Prop} {b : Nat} {z : Int} {vn vs ve vs' : Value} {ns : List Nd} {ss ss' : List Int} {es : List Ev} (h : Grow W F b z vn vs ve ns ss es) (hF : ∀ k, W.heap.size ≤ k → F k) (hg : W.grownBy V vs.ownBlock) (hn' : OwnS V 0 vs' ss') (hl : vs'.ownBlock = vs.ownBlock ∨ ∃ k, W.heap.size ≤ k ∧ vs'.ownBlock = some k) :
    Grow (V.setCell ⟨b, 2, none⟩ vs') F b z vn vs' ve ns ss' es := by
  have hbn : some b ≠ vs.ownBlock := fun e => (h.fs b e.symm).2 rfl
  have hb := h.lt
  have hne : ∀ k, vs'.ownBlock = some k → F k ∧ k ≠ b ∧ vn.ownBlock ≠ some k ∧ ve.ownBlock ≠ some k := by
    intro k hk
    rcases hl with e | ⟨j, hj, e⟩
    · rw [e] at hk
      exact ⟨(h.fs k hk).1, (h.fs k hk).2, fun hn => (h.an k hn).1 hk, h.asn k hk⟩
    · rw [e] at hk
      cases hk
      exact ⟨hF _ hj, by omega, fun hs => by have := h.n.low _ hs; omega, fun hs => by have := h.e.low _ hs; omega⟩
  refine ⟨?_, h.fb, ?_, ?_, ?_, h.fn, fun k hk => ⟨(hne k hk).1, (hne k hk).2.1⟩, h.fe, fun k hk => ⟨fun e => (hne k e).2.2.1 hk, (h.an k hk).2⟩, fun k hk => (hne k hk).2.2.2⟩
  · rw [block_set vs' ((hg.block b hb hbn).trans h.blk)]
    rfl
  · exact (h.n.grown hg (fun k hk e => (h.an k hk).1 e.symm)).other (fun e => (h.fn b e).2 rfl) _
  · exact hn'.other (fun e => (hne b e).2.1 rfl) _
  · exact (h.e.grown hg (fun k hk e => h.asn k e.symm hk)).other (fun e => (h.fe b e).2 rfl) _
/-- a cell of a node -/
theorem Grow.put {W : World} {F : Nat → Prop} {b : Nat} {z : Int} {g cap : Nat} {vs ve : Value} {A B : List Nd} {n m : Nd} {ss : List Int} {es : List Ev} {l : Nat} (h : Grow W F b z (.slice (some ⟨g, 0, none⟩) l cap) vs ve (A ++ n :: B) ss es) {c : Nat} (hc : c < 9) {v : Value} (hm : ncells m = (ncells n).set c v) :
    Grow (W.setCell ⟨g, A.length * 9 + c, none⟩ v) F b z (.slice (some ⟨g, 0, none⟩) l cap) vs ve (A ++ m :: B) ss es := by
  have hgb := (h.fn g rfl).2
  refine ⟨(Below.heap_setCell W ⟨g, _, none⟩ v b (fun e => hgb e.symm)).trans h.blk, h.fb, ?_, ?_, ?_, h.fn, h.fs, h.fe, h.an, h.asn⟩
  · rcases h.n with ⟨h1, _⟩ | ⟨g', cap', h1, h2, h3⟩
    · cases h1
    · simp only [Value.slice.injEq, Option.some.injEq, Addr.mk.injEq, and_true] at h1
      obtain ⟨rfl, rfl, rfl⟩ := h1
      refine .inr ⟨g, cap, by simp, h2, ?_⟩
      exact h3.set (c := c) (by exact hc) hm
  · exact h.s.other (fun e => (h.an g rfl).1 e) _
  · exact h.e.other (fun e => (h.an g rfl).2 e) _
theorem Grow.nrow {W : World} {F : Nat → Prop} {b : Nat} {z : Int} {vn vs ve : Value} {ns : List Nd} {ss : List Int} {es : List Ev} (h : Grow W F b z vn vs ve ns ss es) (h0 : ns ≠ []) : ∃ g cap, vn = .slice (some ⟨g, 0, none⟩) ns.length cap ∧ OwnR W g cap ns ∧ g ≠ b ∧ F g := by
  rcases h.n with ⟨_, h1⟩ | ⟨g, cap, rfl, _, h3⟩
  · exact absurd h1 h0
  · exact ⟨g, cap, rfl, h3, (h.fn g rfl).2, (h.fn g rfl).1⟩

/- tell -/
theorem step_app_ev {w : World} {ops : Array Oper} {o : Oper} {a : Act} {K : Act → World → Prop} {Q : Exit → Act → World → Prop} {E : Prop} (hgd : Region.wanted o (yielded ops a.tmps) = true) (s x : Operand)
    (ho : o.op = .call { callee := .builtin .append, args := #[s, x], argTypes := #[39, 39] })
    (v : Value) (es : List Ev) (hs : a.eval s = v) (hown : OwnS w 0 v es)
    (q : Nat) (hx : a.eval x = .slice (some ⟨q, 0, none⟩) 1 1) (t : Ev) (hnews : OneR w q t) (hl : es.length ≤ 100000)
    (h : ∀ a' c' w', OwnS w' 0 (.slice a' (es.length + 1) c') (es ++ [t]) → w.grownBy w' v.ownBlock → ((Value.slice a' (es.length + 1) c').ownBlock = v.ownBlock ∨ (Value.slice a' (es.length + 1) c').ownBlock = some w.heap.size) → K (a.put o.dst (.slice a' (es.length + 1) c')) w') :
    if Region.wanted o (yielded ops a.tmps) = true then Oper.wp Tryz.prog o a w K Q else E := by
  rw [if_pos hgd]
  obtain ⟨i0, hi0, hz0, hz1, hz2⟩ := einfo
  obtain ⟨v', w', hr, h2, h3, _, h5⟩ := run_append_own_at (P := Tryz.prog) w 0 39 o.type 91 i0 _ 2 24 Tryz.underlying39 hi0 hz0 hz1 hz2 rfl (by decide) v es.length (cellsL es) hown.row ⟨q, 0, none⟩ 1 1 (ecells t) rfl (one_news hnews) (Lay.one t) (by simp only [maxLen]; omega) (by omega) (Nat.zero_le _)
  have h2' : OwnS w' 0 v' (es ++ [t]) := OwnS.of_row (by rw [List.length_append, cellsL_snoc]; exact h2)
  obtain ⟨a', c', rfl, _⟩ := h2'.slice
  have hlen : (es ++ [t]).length = es.length + 1 := by simp
  rw [hlen] at h2' hr h5
  unfold Oper.wp execOp
  simp only [ho, resolve, invoke, builtin, Sem.run_bind, Sem.run_pure, Result.andThen_ok, List.map_toArray, List.map_cons, List.map_nil, hs, hx, hr]
  exact h a' c' w' h2' h3 h5

set_option maxRecDepth 20000 in
set_option maxHeartbeats 2000000 in
theorem tell_any (F : Nat → Prop) (b : Nat) (z : Int) (vn vs ve : Value) (ns : List Nd) (ss : List Int) (es : List Ev) (kind : Int) (p : List UInt8) (w : World)
    (h : Grow w F b z vn vs ve ns ss es) (hF : ∀ k, w.heap.size ≤ k → F k) (hp : p.length ≤ 140737488355328) (hl : es.length ≤ 100000) :
    Calls Tryz.prog 77 #[.pointer (some ⟨b, 0, none⟩), .int .i64 kind, .string ⟨p.toArray⟩] w fun e w' =>
      e = .returned (.tuple #[]) ∧ ∃ ve', Grow w' F b z vn vs ve' ns ss (es ++ [⟨kind, p⟩]) ∧ Touch F w w' := by
  have C := fun W => nclone_any p W (by omega)
  have c3 := h.c3
  have f3 := h.fz 3
  have HG := hide h
  have HF := hide hF
  obtain ⟨ea, ec, rfl, _⟩ := h.e.slice
  have K1 := hide (fun w1 (hb1 : Below w.heap.size w w1) => (⟨(h.next hb1).c3, (h.next hb1).fz 3, (h.next hb1).lt, ((h.next hb1).next (allocB _ _)).c3⟩ : w1.cell? ⟨b, 3, none⟩ = some (.slice ea es.length ec) ∧ w1.frozen? ⟨b, 3, none⟩ = false ∧ b < w1.heap.size ∧ (w1.alloc (.cells #[.int .i64 kind, .string ⟨p.toArray⟩] 91)).cell? ⟨b, 3, none⟩ = some (.slice ea es.length ec)))
  have KE := hide (fun w1 (hb1 : Below w.heap.size w w1) => (h.next hb1).e.next (allocB w1 (.cells #[.int .i64 kind, .string ⟨p.toArray⟩] 91)))
  have K2 : ∀ (w1 w2 : World) (a2 : Option Addr) (c2 : Nat), Below w.heap.size w w1 → OwnS w2 0 (.slice a2 (es.length + 1) c2) (es ++ [⟨kind, p⟩]) → (w1.alloc (.cells #[.int .i64 kind, .string ⟨p.toArray⟩] 91)).grownBy w2 (Value.slice ea es.length ec).ownBlock →
      ((Value.slice a2 (es.length + 1) c2).ownBlock = (Value.slice ea es.length ec).ownBlock ∨ (Value.slice a2 (es.length + 1) c2).ownBlock = some (w1.alloc (.cells #[.int .i64 kind, .string ⟨p.toArray⟩] 91)).heap.size) →
      w2.cell? ⟨b, 3, none⟩ = some (.slice ea es.length ec) ∧ w2.frozen? ⟨b, 3, none⟩ = false ∧ Grow (w2.setCell ⟨b, 3, none⟩ (.slice a2 (es.length + 1) c2)) F b z vn vs (.slice a2 (es.length + 1) c2) ns ss (es ++ [⟨kind, p⟩]) ∧ Touch F w (w2.setCell ⟨b, 3, none⟩ (.slice a2 (es.length + 1) c2)) := by
    intro w1 w2 a2 c2 hb1 ho2 hg2 hl2
    have g1 := (h.next hb1).next (allocB w1 (.cells #[.int .i64 kind, .string ⟨p.toArray⟩] 91))
    have n3 : ¬ (Value.slice ea es.length ec).ownBlock = some b := fun e => (h.fe b e).2 rfl
    refine ⟨hg2.cell g1.c3 (fun e => n3 e.symm), (World.frozen?_of_block (hg2.block b g1.lt (fun e => n3 e.symm))).trans (g1.fz 3), g1.ev (fun k hk => hF k (by have := hb1.size; simp at hk; omega)) hg2 ho2 hl2, ?_⟩
    exact (((Touch.of_below hb1).trans (Touch.of_below (allocB _ _))).trans (Touch.of_grown hg2 (fun k e => (h.fe k e).1))).trans (Touch.set h.fb _)
  have HK2 := hide K2
  clear h hF hp K2
  go_enter Tryz.func77, Tryz.ntmps77
  go_wp2_with fail
  go_region_law (first
    | (refine step_app_ev (by kernel_rfl) _ _ (by rfl) (.slice ea es.length ec) es (by rfl) (unhide KE w1 (unhide HB1)) w1.heap.size (by rfl) ⟨kind, p⟩ (one_new w1 kind p) hl ?_; intro a2 c2 w2 ho2 hg2 hl2; obtain ⟨m3, l3, g2, t2⟩ := unhide HK2 w1 w2 a2 c2 (unhide HB1) ho2 hg2 hl2; have HG2 := hide g2; have HT2 := hide t2; clear ho2 hg2 hl2 g2 t2)
    | (go_simp; refine (C _).mono ?_; rintro e w1 ⟨rfl, hb1⟩; have HB1 : Hid (Below w.heap.size w w1) := (by first | exact hb1 | exact nbelow_drew hb1); obtain ⟨d3, k3, hbn, d3a⟩ := unhide K1 w1 (unhide HB1); clear hb1))
  all_goals go_wp2_with fail
  all_goals go_end0
  all_goals exact ⟨rfl, _, unhide HG2, unhide HT2⟩
end Go.Proofs.YtalnmhgedfgooaaGreatDoor

namespace Go.Proofs.YtalnmhgedfgooaaGreatDoor
open Go.RowKit

theorem nat_at (A : List Nd) (x : Nd) (B : List Nd) : (A ++ x :: B)[A.length]? = some x := by simp

set_option maxRecDepth 20000 in
set_option maxHeartbeats 2000000 in
theorem parent_full (F : Nat → Prop) (b : Nat) (z : Int) (vn vs ve : Value) (ns A B : List Nd) (u : Nd) (ss : List Int) (es : List Ev) (p : List UInt8) (more : Int) (w : World)
    (h : Grow w F b z vn vs ve ns ss es) (T : NThere ns A u B p) (hl : ns.length ≤ 400) (hk : u.k = 2147483647) :
    Calls Tryz.prog 78 #[.pointer (some ⟨b, 0, none⟩), .string ⟨p.toArray⟩, .int .i64 more] w fun e w' => e = .returned (.int .i64 6) ∧ Touch F w w' := by
  have CF := fun W (hW : Below w.heap.size w W) => nfind_there vn ns A B u p W (h.n.next hW).seq (by omega) T
  obtain ⟨g, cap, rfl, hr, hgb, hFg⟩ := h.nrow (by rw [T.eq]; simp)
  have c1 := h.c1
  have HG := hide h
  have HE := hide T.eq
  have hlt : A.length < ns.length := by rw [T.eq]; simp
  clear h hr T
  go_enter Tryz.func78, Tryz.ntmps78
  go_wp2_with fail
  refine (CF _ (Below.refl _ _)).mono ?_
  rintro e w1 ⟨rfl, hb1⟩
  have g1 := (unhide HG).next hb1
  have d1 := g1.c1
  obtain ⟨g', cap', he, hr, _, _⟩ := g1.nrow (by rw [unhide HE]; simp)
  simp only [Value.slice.injEq, Option.some.injEq, Addr.mk.injEq, and_true] at he
  obtain ⟨rfl, _, rfl⟩ := he
  have r6 := hr.row.n6 (i := A.length) (x := u) (by rw [unhide HE]; exact nat_at A u B)
  rw [hk, Nat.zero_add] at r6
  have HB := hide hb1
  clear CF c1 g1 hr hb1
  go_wp2_with fail
  go_ret
  exact ⟨rfl, Touch.of_below (unhide HB)⟩

set_option maxRecDepth 20000 in
set_option maxHeartbeats 4000000 in
theorem parent_ok (F : Nat → Prop) (b : Nat) (z : Int) (vn vs ve : Value) (ns A B : List Nd) (u : Nd) (ss : List Int) (es : List Ev) (p : List UInt8) (more : Int) (w : World)
    (h : Grow w F b z vn vs ve ns ss es) (hF : ∀ k, w.heap.size ≤ k → F k) (T : NThere ns A u B p) (hl : ns.length ≤ 400) (hk : 0 ≤ u.k ∧ u.k < 2147483647) (hn : 0 ≤ u.n ∧ u.n ≤ 1000) (hm : -1 ≤ more ∧ more ≤ 1) (hp : p.length ≤ 140737488355328) (hes : es.length ≤ 99999) :
    Calls Tryz.prog 78 #[.pointer (some ⟨b, 0, none⟩), .string ⟨p.toArray⟩, .int .i64 more] w fun e w' => e = .returned (.int .i64 0) ∧ ∃ ve', Grow w' F b z vn vs ve' (A ++ bump z more u :: B) ss (es ++ [⟨4, p⟩]) ∧ Touch F w w' := by
  have CF := fun W (hW : Below w.heap.size w W) => nfind_there vn ns A B u p W (h.n.next hW).seq (by omega) T
  obtain ⟨g, cap, rfl, hr, hgb, hFg⟩ := h.nrow (by rw [T.eq]; simp)
  have c1 := h.c1
  have HG := hide h
  have HE := hide T.eq
  have HF := hide hF
  have hlt : A.length < ns.length := by rw [T.eq]; simp
  clear h hr T hF
  go_enter Tryz.func78, Tryz.ntmps78
  go_wp2_with fail
  refine (CF _ (Below.refl _ _)).mono ?_
  rintro e w1 ⟨rfl, hb1⟩
  have g1 := (unhide HG).next hb1
  have d1 := g1.c1
  have d0 := g1.c0
  obtain ⟨g', cap', he, hr, _, _⟩ := g1.nrow (by rw [unhide HE]; simp)
  simp only [Value.slice.injEq, Option.some.injEq, Addr.mk.injEq, and_true] at he
  obtain ⟨rfl, _, rfl⟩ := he
  have at' : ns[A.length]? = some u := by rw [unhide HE]; exact nat_at A u B
  have r4 := hr.row.n4 at'
  have r6 := hr.row.n6 at'
  have r8 := hr.row.n8 at'
  have z4 := hr.frozen (A.length * 9 + 4)
  have z6 := hr.frozen (A.length * 9 + 6)
  have z8 := hr.frozen (A.length * 9 + 8)
  rw [Nat.zero_add] at r4 r6 r8
  have hne : g ≠ b := hgb
  have hne' : b ≠ g := Ne.symm hgb
  have hk1 := hk.1
  have hk2 := hk.2
  have hkn : ¬ u.k = 2147483647 := by omega
  have g4 : Grow (((w1.setCell ⟨g, A.length * 9 + 8, none⟩ (.int .i64 (u.n + more))).setCell ⟨g, A.length * 9 + 6, none⟩ (.int .i64 (u.k + 1))).setCell ⟨g, A.length * 9 + 4, none⟩ (.int .i64 z)) F b z (.slice (some ⟨g, 0, none⟩) ns.length cap) vs ve (A ++ bump z more u :: B) ss es := by
    have e0 := g1
    rw [unhide HE] at e0
    have e1 := e0.put (m := ⟨u.p, u.d, u.c, u.m, u.q, u.v, u.k, u.o, u.n + more⟩) (c := 8) (by omega) (v := .int .i64 (u.n + more)) rfl
    have e2 := e1.put (m := ⟨u.p, u.d, u.c, u.m, u.q, u.v, u.k + 1, u.o, u.n + more⟩) (c := 6) (by omega) (v := .int .i64 (u.k + 1)) rfl
    have e3 := e2.put (m := bump z more u) (c := 4) (by omega) (v := .int .i64 z) rfl
    rw [unhide HE]
    exact e3
  have T4 : Touch F w (((w1.setCell ⟨g, A.length * 9 + 8, none⟩ (.int .i64 (u.n + more))).setCell ⟨g, A.length * 9 + 6, none⟩ (.int .i64 (u.k + 1))).setCell ⟨g, A.length * 9 + 4, none⟩ (.int .i64 z)) :=
    (((Touch.of_below hb1).trans (Touch.set hFg _)).trans (Touch.set hFg _)).trans (Touch.set hFg _)
  have CT := fun W (hW : Grow W F b z (.slice (some ⟨g, 0, none⟩) ns.length cap) vs ve (A ++ bump z more u :: B) ss es) (hs : w.heap.size ≤ W.heap.size) => tell_any F b z _ vs ve _ ss es 4 p W hW (fun k hk => unhide HF k (by omega)) hp (by omega)
  have HG4 := hide g4
  have HT4 := hide T4
  have HCT := hide CT
  clear CF c1 g1 hr hb1 at' g4 T4 CT
  go_wp2_with fail
  refine (unhide HCT _ (unhide HG4) (unhide HT4).size).mono ?_
  rintro e w5 ⟨rfl, ve', g5, t5⟩
  have HG5 := hide g5
  have HT5 := hide ((unhide HT4).trans t5)
  clear g5 t5
  go_wp2_with fail
  go_ret
  exact ⟨rfl, ve', unhide HG5, unhide HT5⟩

end Go.Proofs.YtalnmhgedfgooaaGreatDoor

namespace Go.Proofs.YtalnmhgedfgooaaGreatDoor
open Go.RowKit

/- remove -/
set_option maxRecDepth 20000 in
set_option maxHeartbeats 2000000 in
theorem remove_gap (F : Nat → Prop) (b : Nat) (z : Int) (vn vs ve : Value) (ns A B : List Nd) (ss : List Int) (es : List Ev) (p : List UInt8) (w : World)
    (h : Grow w F b z vn vs ve ns ss es) (G : NGap ns A B p) (hl : ns.length ≤ 400) :
    Calls Tryz.prog 62 #[.pointer (some ⟨b, 0, none⟩), .string ⟨p.toArray⟩] w fun e w' => e = .returned (.int .i64 7) ∧ Touch F w w' := by
  have CF := fun W (hW : Below w.heap.size w W) => nfind_gap vn ns A B p W (h.n.next hW).seq (by omega) G
  have c1 := h.c1
  obtain ⟨na, nc, rfl, _⟩ := h.n.slice
  clear h G
  go_enter Tryz.func62, Tryz.ntmps62
  go_wp2_with fail
  refine (CF _ (Below.refl _ _)).mono ?_
  rintro e w1 ⟨rfl, hb1⟩
  clear CF
  go_wp2_with fail
  go_ret
  exact ⟨rfl, Touch.of_below hb1⟩

set_option maxRecDepth 20000 in
set_option maxHeartbeats 2000000 in
theorem remove_kids (F : Nat → Prop) (b : Nat) (z : Int) (vn vs ve : Value) (ns A B : List Nd) (u : Nd) (ss : List Int) (es : List Ev) (p : List UInt8) (w : World)
    (h : Grow w F b z vn vs ve ns ss es) (T : NThere ns A u B p) (hl : ns.length ≤ 400) (hk : u.n ≠ 0) :
    Calls Tryz.prog 62 #[.pointer (some ⟨b, 0, none⟩), .string ⟨p.toArray⟩] w fun e w' => e = .returned (.int .i64 10) ∧ Touch F w w' := by
  have CF := fun W (hW : Below w.heap.size w W) => nfind_there vn ns A B u p W (h.n.next hW).seq (by omega) T
  obtain ⟨g, cap, rfl, hr, hgb, hFg⟩ := h.nrow (by rw [T.eq]; simp)
  have c1 := h.c1
  have HG := hide h
  have HE := hide T.eq
  have hlt : A.length < ns.length := by rw [T.eq]; simp
  clear h hr T
  go_enter Tryz.func62, Tryz.ntmps62
  go_wp2_with fail
  refine (CF _ (Below.refl _ _)).mono ?_
  rintro e w1 ⟨rfl, hb1⟩
  have g1 := (unhide HG).next hb1
  have d1 := g1.c1
  obtain ⟨g', cap', he, hr, _, _⟩ := g1.nrow (by rw [unhide HE]; simp)
  simp only [Value.slice.injEq, Option.some.injEq, Addr.mk.injEq, and_true] at he
  obtain ⟨rfl, _, rfl⟩ := he
  have r8 := hr.row.n8 (i := A.length) (x := u) (by rw [unhide HE]; exact nat_at A u B)
  rw [Nat.zero_add] at r8
  have hk' : (u.n != 0) = true := by simpa using hk
  have HB := hide hb1
  clear CF c1 g1 hr hb1 hk
  go_wp2_with fail
  go_ret
  exact ⟨rfl, Touch.of_below (unhide HB)⟩

set_option maxRecDepth 20000 in
set_option maxHeartbeats 4000000 in
theorem remove_main (F : Nat → Prop) (b : Nat) (z : Int) (vn vs ve : Value) (ns A B : List Nd) (n : Nd) (ss : List Int) (es : List Ev) (p : List UInt8) (w : World) (E : Int) (Post : World → Prop)
    (h : Grow w F b z vn vs ve ns ss es) (hF : ∀ k, w.heap.size ≤ k → F k) (T : NThere ns A n B p) (hl : ns.length ≤ 400) (hk : n.n = 0) (hp : p.length ≤ 140737488355328) (hes : es.length ≤ 99998)
    (hpar : ∀ W vn' ve', Grow W F b z vn' vs ve' (A ++ B) ss (es ++ [⟨2, p⟩]) → w.heap.size ≤ W.heap.size → Touch F w W → Calls Tryz.prog 78 #[.pointer (some ⟨b, 0, none⟩), .string ⟨(dirOf p).toArray⟩, .int .i64 (-1)] W fun e w' => e = .returned (.int .i64 E) ∧ Post w') :
    Calls Tryz.prog 62 #[.pointer (some ⟨b, 0, none⟩), .string ⟨p.toArray⟩] w fun e w' => e = .returned (.int .i64 E) ∧ Post w' := by
  have CF := fun W (hW : Below w.heap.size w W) => nfind_there vn ns A B n p W (h.n.next hW).seq (by omega) T
  obtain ⟨g, cap, rfl, hr, hgb, hFg⟩ := h.nrow (by rw [T.eq]; simp)
  have c1 := h.c1
  have HG := hide h
  have HE := hide T.eq
  have HF := hide hF
  have HP := hide hpar
  have hlen : ns.length = A.length + B.length + 1 := by rw [T.eq]; simp; omega
  have hlt : A.length < ns.length := by omega
  have HL := hide hlen
  have CD := fun W (ho : OwnR W g cap (A ++ n :: B)) => ndelete_any g cap A B n ns.length W ho (unhide HL) hl
  have CS := fun W => split_any p W
  have HCD := hide CD
  have HCS := hide CS
  clear h hr T hF hpar CD CS hlen
  go_enter Tryz.func62, Tryz.ntmps62
  go_wp2_with fail
  refine (CF _ (Below.refl _ _)).mono ?_
  rintro e w1 ⟨rfl, hb1⟩
  have g1 := (unhide HG).next hb1
  have d1 := g1.c1
  obtain ⟨g', cap', he, hr, _, _⟩ := g1.nrow (by rw [unhide HE]; simp)
  simp only [Value.slice.injEq, Option.some.injEq, Addr.mk.injEq, and_true] at he
  obtain ⟨rfl, _, rfl⟩ := he
  have r8 := hr.row.n8 (i := A.length) (x := n) (by rw [unhide HE]; exact nat_at A n B)
  rw [Nat.zero_add, hk] at r8
  have HB := hide hb1
  have HG1 := hide g1
  have HR := hide (show OwnR w1 g cap (A ++ n :: B) by rw [← unhide HE]; exact hr)
  clear CF c1 g1 hr hb1
  go_wp2_with fail
  rw [show ((A.length : Int) + 1) = ((A.length + 1 : Nat) : Int) from by omega]
  refine (unhide HCD _ (unhide HR)).mono ?_
  rintro e w2 ⟨rfl, ho2, hg2⟩
  have m1 : w2.cell? ⟨b, 1, none⟩ = some (.slice (some ⟨g, 0, none⟩) ns.length cap) := hg2.cell d1 (fun e => hgb (Option.some.inj e).symm)
  have l1 : w2.frozen? ⟨b, 1, none⟩ = false := (World.frozen?_of_block (hg2.block b (unhide HG1).lt (fun e => hgb (Option.some.inj e).symm))).trans ((unhide HG1).fz 1)
  have g2 := (unhide HG1).nd (vn' := .slice (some ⟨g, 0, none⟩) (A.length + B.length) cap) (ns' := A ++ B) (fun k hk => unhide HF k (by have := (unhide HB).size; omega)) hg2 (.inr ⟨g, cap, by rw [List.length_append], Nat.zero_le _, ho2⟩) (.inl rfl)
  have t2 : Touch F w (w2.setCell ⟨b, 1, none⟩ (.slice (some ⟨g, 0, none⟩) (A.length + B.length) cap)) := ((Touch.of_below (unhide HB)).trans (Touch.of_grown hg2 (fun k e => by cases e; exact hFg))).trans (Touch.set g2.fb _)
  have HG2 := hide g2
  have HT2 := hide t2
  clear g2 t2 ho2 hg2 d1 r8 HR
  go_wp2_with fail
  refine (tell_any F b z _ vs ve _ ss es 2 p _ (unhide HG2) (fun k hk => unhide HF k (by have := (unhide HT2).size; omega)) hp (by omega)).mono ?_
  rintro e w3 ⟨rfl, ve', g3, t3⟩
  have HG3 := hide g3
  have HT3 := hide ((unhide HT2).trans t3)
  clear g3 t3 m1 l1
  go_wp2_with fail
  refine (unhide HCS _).mono ?_
  rintro e w4 ⟨rfl, hb4⟩
  have HG4 := hide ((unhide HG3).next hb4)
  have HT4 := hide ((unhide HT3).trans (Touch.of_below hb4))
  clear hb4
  go_wp2_with fail
  refine (unhide HP _ _ _ (unhide HG4) (unhide HT4).size (unhide HT4)).mono ?_
  rintro e w5 ⟨rfl, hp5⟩
  have HP5 := hide hp5
  clear hp5
  go_wp2_with fail
  go_ret
  exact ⟨rfl, unhide HP5⟩

/-- a node goes, and its parent has room -/
theorem remove_ok (F : Nat → Prop) (b : Nat) (z : Int) (vn vs ve : Value) (ns A B A' B' : List Nd) (n u : Nd) (ss : List Int) (es : List Ev) (p : List UInt8) (w : World)
    (h : Grow w F b z vn vs ve ns ss es) (hF : ∀ k, w.heap.size ≤ k → F k) (T : NThere ns A n B p) (T' : NThere (A ++ B) A' u B' (dirOf p)) (hl : ns.length ≤ 400) (hk : n.n = 0) (hu : 0 ≤ u.k ∧ u.k < 2147483647) (hn : 0 ≤ u.n ∧ u.n ≤ 1000) (hp : p.length ≤ 140737488355328) (hd : (dirOf p).length ≤ 140737488355328) (hes : es.length ≤ 99998) :
    Calls Tryz.prog 62 #[.pointer (some ⟨b, 0, none⟩), .string ⟨p.toArray⟩] w fun e w' => e = .returned (.int .i64 0) ∧ ∃ vn' ve', Grow w' F b z vn' vs ve' (rmN z ns p) ss (es ++ [⟨2, p⟩, ⟨4, dirOf p⟩]) ∧ Touch F w w' := by
  refine remove_main F b z vn vs ve ns A B n ss es p w 0 _ h hF T hl hk hp hes (fun W vn' ve' hG hs ht => ?_)
  have hlen : (A ++ B).length ≤ 400 := by have := congrArg List.length T.eq; simp at this ⊢; omega
  refine (parent_ok F b z vn' vs ve' (A ++ B) A' B' u ss _ (dirOf p) (-1) W hG (fun k hk => hF k (by omega)) T' hlen hu hn (by omega) hd (by simp; omega)).mono ?_
  rintro e w' ⟨rfl, ve2, g, t⟩
  refine ⟨rfl, vn', ve2, ?_, ht.trans t⟩
  rw [rmN, T.drop, T'.bump]
  simpa using g
theorem remove_full (F : Nat → Prop) (b : Nat) (z : Int) (vn vs ve : Value) (ns A B A' B' : List Nd) (n u : Nd) (ss : List Int) (es : List Ev) (p : List UInt8) (w : World)
    (h : Grow w F b z vn vs ve ns ss es) (hF : ∀ k, w.heap.size ≤ k → F k) (T : NThere ns A n B p) (T' : NThere (A ++ B) A' u B' (dirOf p)) (hl : ns.length ≤ 400) (hk : n.n = 0) (hu : u.k = 2147483647) (hp : p.length ≤ 140737488355328) (hes : es.length ≤ 99998) :
    Calls Tryz.prog 62 #[.pointer (some ⟨b, 0, none⟩), .string ⟨p.toArray⟩] w fun e w' => e = .returned (.int .i64 6) ∧ Touch F w w' := by
  refine remove_main F b z vn vs ve ns A B n ss es p w 6 _ h hF T hl hk hp hes (fun W vn' ve' hG hs ht => ?_)
  have hlen : (A ++ B).length ≤ 400 := by have := congrArg List.length T.eq; simp at this ⊢; omega
  refine (parent_full F b z vn' vs ve' (A ++ B) A' B' u ss _ (dirOf p) (-1) W hG T' hlen hu).mono ?_
  rintro e w' ⟨rfl, t⟩
  exact ⟨rfl, ht.trans t⟩

end Go.Proofs.YtalnmhgedfgooaaGreatDoor
