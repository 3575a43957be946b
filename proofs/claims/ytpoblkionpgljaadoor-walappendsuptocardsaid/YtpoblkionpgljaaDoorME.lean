/-
  Runs of cells stored into a row of the call's own.
  What slices.Delete of one file and disk.Remove answer: the walks.
  What slices.Insert of one file answers, into a row of the call's own: the walks.
  What disk.Write answers: the walks.
  What disk.Crash answers: the walk.
  What the disk's calls come to, as plain lists: good disks stay good; where a name stands behind a change; what is read. No program is named here.
  What it is that a call on a disk gives a disk.
-/
import Derived.Test.YtpoblkionpgljaaDoorMD
import Derived.Laws.IdiomCopy
import Derived.Lib.AppendZeros
import Derived.Lib.JoinLaws
import Derived.Deep.RegionLaw
import Derived.Lib.AppendZerosOnto
import Derived.Lib.Overlaps
import Derived.Laws.Externs
namespace Go.Proofs.YtpoblkionpgljaaDoor
open Go.RowKit

theorem block_setCells {g : Nat} {t : TypeId} {fz : Nat × Nat} : ∀ (vs : List Value) (o : Nat) (w : World) (l : List Value), w.heap[g]? = some (.cells l.toArray t fz) → o + vs.length ≤ l.length →
    (w.setCells g o vs).heap[g]? = some (.cells (l.take o ++ vs ++ l.drop (o + vs.length)).toArray t fz)
  | [], o, w, l, h, _ => by simpa [World.setCells] using h
  | v :: r, o, w, l, h, hl => by
    have h1 : (w.setCell ⟨g, o, none⟩ v).heap[g]? = some (.cells (l.set o v).toArray t fz) := by rw [block_set v h]; simp
    rw [World.setCells, block_setCells r (o + 1) _ _ h1 (by simp at hl ⊢; omega)]
    have ho : o < l.length := by simp at hl; omega
    have e1 : (l.set o v).take (o + 1) = l.take o ++ [v] := by
      rw [List.take_set, List.take_succ_eq_append_getElem ho, List.set_append_right _ _ (by simp; omega)]
      simp [Nat.min_eq_left (Nat.le_of_lt ho)]
    have e2 : (l.set o v).drop (o + 1 + r.length) = l.drop (o + (r.length + 1)) := by
      rw [List.drop_set_of_lt (by omega)]; congr 1; omega
    rw [e1, e2]
    simp
theorem grown_setCells {g : Nat} : ∀ (vs : List Value) (o : Nat) (w : World), w.grownBy (w.setCells g o vs) (some g)
  | [], _, _ => ⟨rfl, rfl, rfl, Nat.le_refl _, fun _ _ _ => rfl⟩
  | v :: r, o, _ => grown_trans (grown_set v) (grown_setCells r (o + 1) _)

/-- new files laid behind the first ones -/
theorem Own.splice {W : World} {g cap : Nat} {pre tl : List DF} (h : Own W g cap (pre ++ tl)) (new : List DF) (hfit : pre.length + new.length ≤ cap) : Own (W.setCells g (pre.length * 3) (cellsF new)) g cap (pre ++ new) := by
  obtain ⟨rest, h1, h2, h3⟩ := h
  have hlen : (cellsF (pre ++ tl) ++ rest).length = cap * 3 := by rw [List.length_append, cellsF_length]; exact h2
  refine ⟨(cellsF (pre ++ tl) ++ rest).drop (pre.length * 3 + (cellsF new).length), ?_, ?_, h3⟩
  · rw [block_setCells (cellsF new) (pre.length * 3) W _ h1 (by rw [hlen, cellsF_length]; omega), cellsF_append pre new]
    congr 3
    have e : cellsF (pre ++ tl) ++ rest = cellsF pre ++ (cellsF tl ++ rest) := by rw [cellsF_append, List.append_assoc]
    rw [e, ← cellsF_length pre, List.take_left]
  · rw [List.length_drop, hlen, cellsF_length, List.length_append]; omega
/-- cells behind the files -/
theorem Own.spare {W : World} {g cap : Nat} {fs : List DF} (h : Own W g cap fs) (vs : List Value) (o : Nat) (ho : fs.length * 3 ≤ o) (hfit : o + vs.length ≤ cap * 3) : Own (W.setCells g o vs) g cap fs := by
  obtain ⟨rest, h1, h2, h3⟩ := h
  have hlen : (cellsF fs ++ rest).length = cap * 3 := by rw [List.length_append, cellsF_length]; exact h2
  have hc := cellsF_length fs
  refine ⟨rest.take (o - fs.length * 3) ++ vs ++ (cellsF fs ++ rest).drop (o + vs.length), ?_, ?_, h3⟩
  · rw [block_setCells vs o W _ h1 (by rw [hlen]; omega)]
    congr 2
    rw [List.take_append, List.take_of_length_le (by omega), hc]
    simp only [List.append_assoc]
  · simp only [List.length_append, List.length_take, List.length_drop, hc]
    omega
/-- one file for another -/
theorem Own.swap1 {W : World} {g cap : Nat} {A B : List DF} {y : DF} (h : Own W g cap (A ++ y :: B)) (x : DF) : Own (W.setCells g (A.length * 3) (fcells x)) g cap (A ++ x :: B) := by
  obtain ⟨rest, h1, h2, h3⟩ := h
  have hlen : (cellsF (A ++ y :: B) ++ rest).length = cap * 3 := by rw [List.length_append, cellsF_length]; exact h2
  refine ⟨rest, ?_, by simpa using h2, h3⟩
  have hA := cellsF_length A
  rw [block_setCells (fcells x) (A.length * 3) W _ h1 (by rw [hlen]; simp [fcells] at h2 ⊢; omega)]
  have e : cellsF (A ++ y :: B) ++ rest = cellsF A ++ (fcells y ++ (cellsF B ++ rest)) := by simp [cellsF_append, cellsF]
  have e' : cellsF (A ++ x :: B) ++ rest = cellsF A ++ (fcells x ++ (cellsF B ++ rest)) := by simp [cellsF_append, cellsF]
  rw [e, e']
  have hx3 : (fcells x).length = 3 := rfl
  have hy3 : (fcells y).length = 3 := rfl
  congr 2
  rw [hx3, ← hA, List.take_left, show (cellsF A).length + 3 = (cellsF A ++ fcells y).length by rw [List.length_append, hy3], ← List.append_assoc (cellsF A) (fcells y), List.drop_left, List.append_assoc]
end Go.Proofs.YtpoblkionpgljaaDoor

namespace Go.Proofs.YtpoblkionpgljaaDoor
open Go.RowKit

def blank : List Value := [.string ⟨#[]⟩, .string ⟨#[]⟩, .string ⟨#[]⟩]
theorem run_clear1 (w : World) (ty : TypeId) (b o c : Nat) (hc : ∀ j, j < 3 → (w.cell? ⟨b, o + j, none⟩).isSome = true) (hf : ∀ j, j < 3 → w.frozen? ⟨b, o + j, none⟩ = false) :
    (Builtin.clear_ #[33] ty #[.slice (some ⟨b, o, none⟩) 1 c]).run Tryd.prog w = .ok (.tuple #[]) (w.setCells b o blank) := by
  have hzc : (Builtin.zeroCells (Value.agg #[.string ⟨#[]⟩, .string ⟨#[]⟩, .string ⟨#[]⟩]).cells 1).toList = blank := by kernel_rfl
  have hst := run_storeCells_cells (P := Tryd.prog) b o blank 0 w (by simpa [blank] using hc) (by simpa [blank] using hf) (by simp [blank, Value.oneCell'])
  simp only [Nat.add_zero] at hst
  simp [Builtin.clear_, run_underlying Tryd.underlying33, hzc, hst]

theorem Own.some {W : World} {g cap : Nat} {fs : List DF} (h : Own W g cap fs) {j : Nat} (hj : j < cap * 3) : (W.cell? ⟨g, j, none⟩).isSome = true := by
  obtain ⟨rest, h1, h2, _⟩ := h
  have hl : j < (cellsF fs ++ rest).length := by rw [List.length_append, cellsF_length, h2]; exact hj
  rw [List.length_append] at hl
  simp [World.cell?, h1, hl]

end Go.Proofs.YtpoblkionpgljaaDoor

namespace Go.Proofs.YtpoblkionpgljaaDoor
open Go.RowKit

theorem run_copy3 (w : World) (ty : TypeId) (b o dLen dCap : Nat) (a : Addr) (sLen sCap : Nat) (cs : List Value) (hn : cs.length = Nat.min sLen dLen * 3)
    (hsrc : ∀ j v, cs[j]? = some v → w.cell? (a.add j) = some v) (hc : ∀ j, j < cs.length → (w.cell? ⟨b, o + j, none⟩).isSome = true) (hf : ∀ j, j < cs.length → w.frozen? ⟨b, o + j, none⟩ = false) (h1 : ∀ v ∈ cs, v.oneCell' = true) :
    (Builtin.copy_ #[33, 33] ty #[.slice (some ⟨b, o, none⟩) dLen dCap, .slice (some a) sLen sCap]).run Tryd.prog w = .ok (goInt (Nat.min sLen dLen)) (w.setCells b o cs) := by
  have hl := run_loadCells_list (P := Tryd.prog) w a cs hsrc
  have hst := run_storeCells_cells (P := Tryd.prog) b o cs 0 w (by simpa using hc) (by simpa using hf) h1
  obtain ⟨i0, hi0, hz0, hz1, hz2⟩ := info_file
  simp [Builtin.copy_, run_underlying Tryd.underlying33, Builtin.lenOf, Builtin.firstCells, sizeOf, typeInfo, hi0, hz1, ← hn, hl, hst]

theorem wp_copy_run1 (w : World) {o : Oper} {a : Act} {K : Act → World → Prop} {Q : Exit → Act → World → Prop} (d s : Operand) (t t' : TypeId)
    (ho : o.op = .call { callee := .builtin .copy, args := #[d, s], argTypes := #[t, t'] }) (v u : Value) (hd : a.eval d = v) (hs : a.eval s = u) {v' : Value} {w' : World}
    (hr : (Builtin.copy_ #[t, t'] o.type #[v, u]).run Tryd.prog w = .ok v' w') (h : K (a.put o.dst v') w') : o.wp Tryd.prog a w K Q := by
  unfold Oper.wp execOp
  simp only [ho, resolve, invoke, builtin, Sem.run_bind, Sem.run_pure, Result.andThen_ok, List.map_toArray, List.map_cons, List.map_nil, hd, hs, hr]
  exact h
theorem wpList_copy_run1 (w : World) {ops : Array Oper} {rest : List Oper} {o : Oper} {a : Act} {Q : Exit → Act → World → Prop} (hgd : o.guard = none) (d s : Operand) (t t' : TypeId)
    (ho : o.op = .call { callee := .builtin .copy, args := #[d, s], argTypes := #[t, t'] }) (v u : Value) (hd : a.eval d = v) (hs : a.eval s = u) {v' : Value} {w' : World}
    (hr : (Builtin.copy_ #[t, t'] o.type #[v, u]).run Tryd.prog w = .ok v' w') (h : wpList Tryd.prog ops Q rest (a.put o.dst v') w') : wpList Tryd.prog ops Q (o :: rest) a w :=
  wpList_plain hgd fun _ hK => wp_copy_run1 w d s t t' ho v u hd hs hr (hK _ _ h)
theorem step_copy_run1 {ops : Array Oper} {o : Oper} {a : Act} {w : World} {K : Act → World → Prop} {Q : Exit → Act → World → Prop} {E : Prop}
    (hg : o.guard = none) (d x : Operand) (dT sT : TypeId) (hop : o.op = Op.call { callee := Callee.builtin Builtin.copy, args := #[d, x], argTypes := #[dT, sT] })
    (v u : Value) (hd : a.eval d = v) (hx : a.eval x = u) {v' : Value} {w' : World} (hr : (Builtin.copy_ #[dT, sT] o.type #[v, u]).run Tryd.prog w = .ok v' w') (hK : K (a.put o.dst v') w') :
    if Region.wanted o (yielded ops a.tmps) = true then Oper.wp Tryd.prog o a w K Q else E := by
  have hw : Region.wanted o (yielded ops a.tmps) = true := by simp [Region.wanted, hg]
  rw [if_pos hw]
  unfold Oper.wp
  simp [execOp, hop, resolve, invoke, builtin, hd, hx, hr, Result.andThen]
  exact hK

/-- block b holds just this file -/
def One (W : World) (b : Nat) (x : DF) : Prop := W.heap[b]? = some (.cells (fcells x).toArray 62 (0, 0))
theorem One.row {W : World} {b : Nat} {x : DF} (h : One W b x) : ∀ j v, (fcells x)[j]? = some v → W.cell? ⟨b, 0 + j, none⟩ = some v := by
  intro j v hj
  unfold One at h
  have : (fcells x).toArray[j]? = some v := by simpa using hj
  simp [World.cell?, h, hj]
theorem fcells_one (x : DF) : ∀ u ∈ fcells x, u.oneCell' = true := by
  intro u h
  simp [fcells] at h
  rcases h with rfl | rfl | rfl <;> rfl

set_option maxRecDepth 10000 in
set_option maxHeartbeats 1000000 in
/-- at the end -/
theorem sinsert_end (v : Value) (A : List DF) (x : DF) (B b : Nat) (w : World) (ho : OwnV w B v A) (hB : B ≤ w.heap.size) (hl : A.length ≤ 16) (h1 : One w b x) :
    Calls Tryd.prog 72 #[v, .int .i64 A.length, .slice (some ⟨b, 0, none⟩) 1 1] w fun e w' =>
      ∃ v', e = .returned v' ∧ OwnV w' B v' (A ++ [x]) ∧ w.grownBy w' v.ownBlock := by
  obtain ⟨i0, hi0, hz0, hz1, hz2⟩ := info_file
  have hrow := ho.row
  have HR := hide hrow
  have H1 := hide h1.row
  have V : ∃ a c, v = .slice a A.length c ∧ A.length ≤ c := by
    rcases ho with ⟨rfl, rfl⟩ | ⟨g, cap, rfl, _, h⟩
    · exact ⟨none, 0, rfl, Nat.le_refl _⟩
    · exact ⟨_, cap, rfl, h.le⟩
  obtain ⟨a, c, rfl, hc⟩ := V
  clear ho hrow h1
  rcases Nat.lt_or_ge A.length c with hcl | hcl
  · have hne : ¬ c = A.length := by omega
    go_enter Tryd.func72, Tryd.ntmps72
    go_wp2_with (at_builtin; refine wpList_append_own _ rfl _ _ 33 rfl B 62 i0 _ 3 48 Tryd.underlying33 hi0 hz0 hz1 hz2 rfl (by decide) _ A.length (cellsF A) rfl (unhide HR) ⟨b, 0, none⟩ 1 1 (fcells x) rfl (by rfl) ?qc2 (fcells_one x) ?qc4 ?qc5 hB ?_)
    case qc2 =>
      intro j u hj
      rw [Addr.add_lit]
      exact unhide H1 j u hj
    case qc4 => simp only [maxLen]; omega
    case qc5 => omega
    intro v' w1 hown hgrow _
    go_wp2
    go_ret
    exact ⟨v', rfl, OwnV.of_row (by rw [List.length_append, cellsF_append]; simpa [cellsF] using hown), hgrow⟩
  · obtain rfl : c = A.length := by omega
    go_enter Tryd.func72, Tryd.ntmps72
    go_wp2_with (at_builtin; refine wpList_append_own _ rfl _ _ 33 rfl B 62 i0 _ 3 48 Tryd.underlying33 hi0 hz0 hz1 hz2 rfl (by decide) _ A.length (cellsF A) rfl (unhide HR) ⟨b, 0, none⟩ 1 1 (fcells x) rfl (by rfl) ?qc2 (fcells_one x) ?qc4 ?qc5 hB ?_)
    case qc2 =>
      intro j u hj
      rw [Addr.add_lit]
      exact unhide H1 j u hj
    case qc4 => simp only [maxLen]; omega
    case qc5 => omega
    intro v' w1 hown hgrow _
    go_wp2
    go_ret
    exact ⟨v', rfl, OwnV.of_row (by rw [List.length_append, cellsF_append]; simpa [cellsF] using hown), hgrow⟩

set_option maxRecDepth 10000 in
set_option maxHeartbeats 2000000 in
/-- there is room -/
theorem sinsert_shift (g cap : Nat) (A R : List DF) (y x : DF) (n b : Nat) (w : World) (ho : Own w g cap (A ++ y :: R)) (hn : n = A.length + R.length + 1) (hsm : n ≤ 16) (hroom : n + 1 ≤ cap) (h1 : One w b x) (hbg : b ≠ g) :
    Calls Tryd.prog 72 #[.slice (some ⟨g, 0, none⟩) n cap, .int .i64 A.length, .slice (some ⟨b, 0, none⟩) 1 1] w fun e w' =>
      e = .returned (.slice (some ⟨g, 0, none⟩) (n + 1) cap) ∧ Own w' g cap (A ++ x :: y :: R) ∧ w.grownBy w' (some g) := by
  have hcl := ho.capLe
  simp only [maxLen] at hcl
  have hrow := ho.row
  have hshg : w.shape? g = some (62, cap * 3) := by
    obtain ⟨rest, q1, q2, _⟩ := ho
    rw [List.length_append, List.length_cons] at q2
    simp [World.shape?, q1, cellsF_length, q2]
  have hshb : w.shape? b = some (62, 3) := by unfold One at h1; simp [World.shape?, h1, fcells]
  have hfb : ∀ j, w.frozen? ⟨b, j, none⟩ = false := fun j => by unfold One at h1; simp [World.frozen?, h1]
  have hov : ∀ lb cb, (callFunc 88 #[.slice (some ⟨b, 0, none⟩) 1 1, .slice (some ⟨g, (A.length + 1) * 3, none⟩) lb cb]).run Tryd.prog w = .ok (.value (.bool false)) w := fun lb cb => by
    rw [run_callFunc_extern Tryd.func88 (by kernel_rfl) (by kernel_rfl) (by kernel_rfl) (e := Extern.SlicesOverlaps.overlaps #[33, 33] #[4]) (by kernel_rfl),
      Lib.run_overlaps_apart w 33 4 62 Tryd.underlying33 3 Tryd.sizeOf62 ⟨b, 0, none⟩ ⟨g, (A.length + 1) * 3, none⟩ 1 1 lb cb hbg 62 62 3 (cap * 3) hshb hshg (by omega) (hfb 0) (hfb 3)]
    rfl
  obtain ⟨W1, hW1⟩ : ∃ W1, W1 = w.drew.setCells g ((A.length + 1) * 3) (cellsF (y :: R)) := ⟨_, rfl⟩
  have ho1 : Own W1 g cap (A ++ y :: y :: R) := by
    have h : Own w.drew g cap ((A ++ [y]) ++ R) := by rw [List.append_assoc]; exact ho
    have := h.splice (y :: R) (by simp; omega)
    rw [hW1]
    simpa using this
  have hg1 : w.grownBy W1 (some g) := by rw [hW1]; have := grown_setCells (g := g) (cellsF (y :: R)) ((A.length + 1) * 3) w.drew; exact ⟨this.os, this.tape, this.output, this.size, this.block⟩
  have hcp1 : ∀ ty dc sc, (Builtin.copy_ #[33, 33] ty #[.slice (some ⟨g, (A.length + 1) * 3, none⟩) (n - A.length) dc, .slice (some ⟨g, A.length * 3, none⟩) (n + 1 - A.length) sc]).run Tryd.prog w.drew = .ok (goInt (Nat.min (n + 1 - A.length) (n - A.length))) W1 := fun ty dc sc => by
    rw [hW1]
    exact run_copy3 w.drew ty g _ _ dc ⟨g, A.length * 3, none⟩ _ sc (cellsF (y :: R)) (by rw [cellsF_length]; simp only [Nat.min_def, List.length_cons]; split <;> omega)
      (fun j v hj => by
        rw [Addr.add_lit]
        have := hrow (A.length * 3 + j) v (by rw [cellsF_append, List.getElem?_append_right (by rw [cellsF_length]; omega), cellsF_length, Nat.add_sub_cancel_left]; exact hj)
        rw [Nat.zero_add] at this
        exact this)
      (fun j hj => by rw [cellsF_length] at hj; exact ho.some (by simp at hj; omega)) (fun j _ => ho.frozen _) (cellsF_one _)
  have hcp2 : ∀ ty dc, (Builtin.copy_ #[33, 33] ty #[.slice (some ⟨g, A.length * 3, none⟩) (n + 1 - A.length) dc, .slice (some ⟨b, 0, none⟩) 1 1]).run Tryd.prog W1 = .ok (goInt (Nat.min 1 (n + 1 - A.length))) (W1.setCells g (A.length * 3) (fcells x)) := fun ty dc =>
    run_copy3 W1 ty g _ _ dc ⟨b, 0, none⟩ 1 1 (fcells x) (by simp only [Nat.min_def, fcells, List.length_cons, List.length_nil]; split <;> omega)
      (fun j v hj => by
        rw [Addr.add_lit]
        have hb2 : W1.heap[b]? = w.heap[b]? := hg1.block b (by unfold One at h1; exact (Array.getElem?_eq_some_iff.1 h1).1) (fun e => hbg (Option.some.inj e))
        have h2 : One W1 b x := hb2.trans h1
        exact h2.row j v hj)
      (fun j hj => ho1.some (by simp [fcells] at hj; omega)) (fun j _ => ho1.frozen _) (fcells_one x)
  have FIN : Hid (Own (W1.setCells g (A.length * 3) (fcells x)) g cap (A ++ x :: y :: R) ∧ w.grownBy (W1.setCells g (A.length * 3) (fcells x)) (some g)) :=
    ⟨ho1.swap1 x, grown_trans hg1 (grown_setCells _ _ _)⟩
  have hin : A.length < n := by omega
  have hini : (A.length : Int) < (n : Int) := by omega
  have hw1 : IntKind.i64.wrap ((A.length : Int) + 1) = (A.length : Int) + 1 := by rw [IntKind.wrap_i64]; omega
  have hb1 : (0 : Int) ≤ (A.length : Int) + 1 := by omega
  have hb2 : ¬ (cap = A.length + 1) := by omega
  have hb3 : (A.length : Int) ≤ (n : Int) + 1 := by omega
  have hb4 : ¬ (cap = A.length) := by omega
  have hb5 : (A.length : Int) + 1 ≤ (n : Int) + 1 := by omega
  have hb6 : ¬ ((cap : Int) < (n : Int) + 1) := by omega
  have hz2 : ¬ ((A.length : Int) = (n : Int)) := by omega
  have htn : ((A.length : Int) + 1).toNat = A.length + 1 := by omega
  clear hW1 ho1 hg1 hrow hshg hshb hfb ho h1 hn
  go_enter Tryd.func72, Tryd.ntmps72
  go_wp2_with (simp only [hov])
  go_region_law (refine step_copy_run1 rfl (.tmp 73) (.tmp 76) 33 33 rfl (.slice (some ⟨g, (A.length + 1) * 3, none⟩) (n - A.length) (cap - (A.length + 1))) (.slice (some ⟨g, A.length * 3, none⟩) (n + 1 - A.length) (cap - A.length)) (by simp [Act.eval, Act.put]) (by simp [Act.eval, Act.put]) (hcp1 _ _ _) ?_)
  go_wp2_with (at_builtin; refine wpList_copy_run1 _ rfl _ _ 33 33 rfl _ _ rfl rfl (hcp2 _ _) ?_)
  go_ret
  exact ⟨rfl, FIN.out⟩

theorem zero_cells3 (k : Nat) : (Builtin.zeroCells (Value.agg #[.string ⟨#[]⟩, .string ⟨#[]⟩, .string ⟨#[]⟩]).cells k).size = k * 3 := by
  simp [Builtin.zeroCells, Value.cells]

set_option maxRecDepth 10000 in
set_option maxHeartbeats 2000000 in
/-- there is no room -/
theorem sinsert_grow (g cap : Nat) (A R : List DF) (y x : DF) (n b : Nat) (w : World) (ho : Own w g cap (A ++ y :: R)) (hn : n = A.length + R.length + 1) (hsm : n ≤ 16) (hroom : cap < n + 1) (h1 : One w b x) :
    Calls Tryd.prog 72 #[.slice (some ⟨g, 0, none⟩) n cap, .int .i64 A.length, .slice (some ⟨b, 0, none⟩) 1 1] w fun e w' =>
      ∃ cap', e = .returned (.slice (some ⟨w.heap.size, 0, none⟩) (n + 1) cap') ∧ Own w' w.heap.size cap' (A ++ x :: y :: R) ∧ Below w.heap.size w w' := by
  have hcap : cap = n := by have := ho.le; simp at this; omega
  obtain ⟨i0, hi0, hz0, hz1, hz2⟩ := info_file
  have hrow := ho.row
  have hgw := ho.lt
  have hbw : b < w.heap.size := by unfold One at h1; exact (Array.getElem?_eq_some_iff.1 h1).1
  have hold : (Builtin.firstCells i0.size A.length (.slice (some ⟨g, 0, none⟩) A.length cap)).run Tryd.prog w.drew = .ok (cellsF A).toArray w.drew := by
    rw [hz1]
    exact run_firstCells_some w.drew 3 A.length ⟨g, 0, none⟩ A.length cap (cellsF A) (cellsF_length A) (fun j v hj => by
      rw [Addr.add_lit]
      exact hrow j v (by rw [cellsF_append, List.getElem?_append_left (List.getElem?_eq_some_iff.1 hj).1]; exact hj))
  obtain ⟨G, hG⟩ : ∃ G, G = grownCap w (n + 1) cap 62 := ⟨_, rfl⟩
  have hGn : n + 1 ≤ G := by rw [hG]; exact grownCap_ge w _ _ _
  have hGm : G ≤ maxLen := by rw [hG]; exact grownCap_le_maxLen w (n + 1) cap _ (by unfold maxLen; omega)
  have hG63 : G ≤ 9223372036854775807 := by have := hGm; unfold maxLen at this; omega
  obtain ⟨ROW, hROW⟩ : ∃ ROW : Array Value, ROW = (cellsF A).toArray ++ Builtin.zeroCells (Value.agg #[.string ⟨#[]⟩, .string ⟨#[]⟩, .string ⟨#[]⟩]).cells (n + 1 - A.length) ++ Builtin.zeroCells (Value.agg #[.string ⟨#[]⟩, .string ⟨#[]⟩, .string ⟨#[]⟩]).cells (G - (n + 1)) := ⟨_, rfl⟩
  obtain ⟨W1, hW1⟩ : ∃ W1, W1 = w.drew.alloc (.cells ROW 62) := ⟨_, rfl⟩
  have hik : A.length + (n + 1 - A.length) = n + 1 := by omega
  have hrz : ∀ ty, (Builtin.append_ #[33, 3] ty #[.slice (some ⟨g, 0, none⟩) A.length cap, .int .i64 ((n : Int) + 1 - (A.length : Int))]).run Tryd.prog w =
      .ok (.slice (some ⟨w.heap.size, 0, none⟩) (n + 1) G) W1 := fun ty => by
    have h := Lib.run_append_grow_zeros w 33 3 ty 62 i0 _ .i64 .i64 Tryd.underlying33 Tryd.underlying3 hi0 hz0 (some ⟨g, 0, none⟩) A.length cap (cellsF A) hold (n + 1 - A.length) (by omega) (by omega) (by omega) (by omega) (by rw [hz2]; omega) (by rw [hz2, hik]; exact growslice_fits hroom (by omega))
    rw [hik, ← hG, ← hROW, ← hW1] at h
    rw [show (n : Int) + 1 - (A.length : Int) = ((n + 1 - A.length : Nat) : Int) by omega]
    exact h
  have ho1 : Own W1 w.heap.size G A := by
    refine ⟨(Builtin.zeroCells (Value.agg #[.string ⟨#[]⟩, .string ⟨#[]⟩, .string ⟨#[]⟩]).cells (n + 1 - A.length) ++ Builtin.zeroCells (Value.agg #[.string ⟨#[]⟩, .string ⟨#[]⟩, .string ⟨#[]⟩]).cells (G - (n + 1))).toList, ?_, ?_, hGm⟩
    · rw [hW1, hROW]
      have := heap_alloc_new w.drew (.cells ((cellsF A).toArray ++ Builtin.zeroCells (Value.agg #[.string ⟨#[]⟩, .string ⟨#[]⟩, .string ⟨#[]⟩]).cells (n + 1 - A.length) ++ Builtin.zeroCells (Value.agg #[.string ⟨#[]⟩, .string ⟨#[]⟩, .string ⟨#[]⟩]).cells (G - (n + 1))) 62)
      refine Eq.trans this ?_
      congr 2
      apply Array.toList_inj.1
      simp
    · simp only [Array.length_toList, Array.size_append, zero_cells3]; omega
  have hB1 : Below w.heap.size w W1 := by rw [hW1]; exact ((Below.refl _ w).drew).alloc (Nat.le_refl _) _
  obtain ⟨W2, hW2⟩ : ∃ W2, W2 = W1.setCells w.heap.size (A.length * 3) (fcells x) := ⟨_, rfl⟩
  have ho2 : Own W2 w.heap.size G (A ++ [x]) := by
    have h : Own W1 w.heap.size G (A ++ []) := by rw [List.append_nil]; exact ho1
    have := h.splice [x] (by simp; omega)
    rw [hW2]
    simpa [cellsF] using this
  have hg2 : W1.grownBy W2 (some w.heap.size) := by rw [hW2]; exact grown_setCells _ _ _
  have hB2 : Below w.heap.size w W2 := hB1.grown hg2 hB1.size (fun k e => by cases e; exact Nat.le_refl _)
  have hcpA : ∀ ty dc, (Builtin.copy_ #[33, 33] ty #[.slice (some ⟨w.heap.size, A.length * 3, none⟩) (n + 1 - A.length) dc, .slice (some ⟨b, 0, none⟩) 1 1]).run Tryd.prog W1 = .ok (goInt (Nat.min 1 (n + 1 - A.length))) W2 := fun ty dc => by
    rw [hW2]
    exact run_copy3 W1 ty w.heap.size _ _ dc ⟨b, 0, none⟩ 1 1 (fcells x) (by simp only [Nat.min_def, fcells, List.length_cons, List.length_nil]; split <;> omega)
      (fun j v hj => by rw [Addr.add_lit]; exact (show One W1 b x from (hB1.block b hbw).trans h1).row j v hj)
      (fun j hj => ho1.some (by simp [fcells] at hj; omega)) (fun j _ => ho1.frozen _) (fcells_one x)
  obtain ⟨W3, hW3⟩ : ∃ W3, W3 = W2.drew.setCells w.heap.size ((A.length + 1) * 3) (cellsF (y :: R)) := ⟨_, rfl⟩
  have hcpB : ∀ ty dc sc, (Builtin.copy_ #[33, 33] ty #[.slice (some ⟨w.heap.size, (A.length + 1) * 3, none⟩) (n - A.length) dc, .slice (some ⟨g, A.length * 3, none⟩) (n - A.length) sc]).run Tryd.prog W2.drew = .ok (goInt (Nat.min (n - A.length) (n - A.length))) W3 := fun ty dc sc => by
    rw [hW3]
    exact run_copy3 W2.drew ty w.heap.size _ _ dc ⟨g, A.length * 3, none⟩ _ sc (cellsF (y :: R)) (by rw [cellsF_length]; simp only [Nat.min_self, List.length_cons]; omega)
      (fun j v hj => by
        rw [Addr.add_lit]
        have := hrow (A.length * 3 + j) v (by rw [cellsF_append, List.getElem?_append_right (by rw [cellsF_length]; omega), cellsF_length, Nat.add_sub_cancel_left]; exact hj)
        rw [Nat.zero_add] at this
        exact (hB2.cell (p := ⟨g, A.length * 3 + j, none⟩) hgw).trans this)
      (fun j hj => by rw [cellsF_length] at hj; exact ho2.drew.some (by simp at hj; omega)) (fun j _ => ho2.drew.frozen _) (cellsF_one _)
  have FIN : Hid (Own W3 w.heap.size G (A ++ x :: y :: R) ∧ Below w.heap.size w W3) := by
    refine ⟨?_, ?_⟩
    · have h : Own W2.drew w.heap.size G ((A ++ [x]) ++ []) := by rw [List.append_nil]; exact ho2
      have := h.splice (y :: R) (by simp; omega)
      rw [hW3]
      simpa using this
    · rw [hW3]; exact hB2.drew.grown (grown_setCells _ _ _) hB2.size (fun k e => by cases e; exact Nat.le_refl _)
  have hin : A.length < n := by omega
  have hini : (A.length : Int) < (n : Int) := by omega
  have hw1 : IntKind.i64.wrap ((A.length : Int) + 1) = (A.length : Int) + 1 := by rw [IntKind.wrap_i64]; omega
  have hb1 : (0 : Int) ≤ (A.length : Int) + 1 := by omega
  have hb2 : ¬ (G = A.length + 1) := by omega
  have hb3 : (A.length : Int) ≤ (n : Int) + 1 := by omega
  have hb4 : ¬ (n = A.length) := by omega
  have hb5 : (A.length : Int) + 1 ≤ (n : Int) + 1 := by omega
  have hb6 : ¬ (G = A.length) := by omega
  have hb7 : (A.length : Int) ≤ (n : Int) := by omega
  have hz3 : ¬ ((A.length : Int) = (n : Int)) := by omega
  have htn : ((A.length : Int) + 1).toNat = A.length + 1 := by omega
  subst hcap
  clear hn hROW hW1 hW2 hW3 hG hrow ho h1 ho1 ho2 hB1 hB2 hg2 hold hik
  go_enter Tryd.func72, Tryd.ntmps72
  go_wp2_with (first
    | (at_builtin; refine Lib.wpList_append_run _ rfl _ _ _ _ rfl _ _ rfl rfl _ _ (hrz _) ?_)
    | (at_builtin; refine wpList_copy_run1 _ rfl _ _ 33 33 rfl _ _ rfl rfl (hcpA _ _) ?_))
  go_region_law (refine step_copy_run1 rfl (.tmp 50) (.tmp 53) 33 33 rfl (.slice (some ⟨w.heap.size, (A.length + 1) * 3, none⟩) (cap - A.length) (G - (A.length + 1))) (.slice (some ⟨g, A.length * 3, none⟩) (cap - A.length) (cap - A.length)) (by simp [Act.eval, Act.put]) (by simp [Act.eval, Act.put]) (hcpB _ _ _) ?_)
  go_wp2
  go_ret
  exact ⟨G, rfl, FIN.out⟩
end Go.Proofs.YtpoblkionpgljaaDoor

namespace Go.Proofs.YtpoblkionpgljaaDoor
open Go.RowKit

theorem own_slice {W : World} {B : Nat} {v : Value} {fs : List DF} (h : OwnV W B v fs) : ∃ a c, v = .slice a fs.length c ∧ fs.length ≤ c := by
  rcases h with ⟨rfl, rfl⟩ | ⟨g, cap, rfl, _, h⟩
  · exact ⟨none, 0, rfl, Nat.le_refl _⟩
  · exact ⟨_, cap, rfl, h.le⟩
theorem own_block {W : World} {B : Nat} {v : Value} {fs : List DF} (h : OwnV W B v fs) : ∀ k, v.ownBlock = some k → B ≤ k ∧ k < W.heap.size := by
  intro k hk
  rcases h with ⟨rfl, rfl⟩ | ⟨g, cap, rfl, hB, h⟩
  · cases hk
  · cases hk; exact ⟨hB, h.lt⟩
theorem sinsert_any (v : Value) (A R : List DF) (x : DF) (B b : Nat) (w : World) (ho : OwnV w B v (A ++ R)) (hB : B ≤ w.heap.size) (hl : (A ++ R).length ≤ 15) (h1 : One w b x) (hb : v.ownBlock ≠ some b) :
    Calls Tryd.prog 72 #[v, .int .i64 A.length, .slice (some ⟨b, 0, none⟩) 1 1] w fun e w' =>
      ∃ v', e = .returned v' ∧ OwnV w' B v' (A ++ x :: R) ∧ w.grownBy w' v.ownBlock := by
  cases R with
  | nil =>
    rw [List.append_nil] at ho hl
    exact sinsert_end v A x B b w ho hB (by omega) h1
  | cons y R =>
    obtain ⟨g, cap, rfl, hg, ho⟩ := own_some ho (k := 0) (by simp; omega)
    have hlen : (A ++ y :: R).length = A.length + R.length + 1 := by simp; omega
    have hlen' : (A ++ x :: y :: R).length = (A ++ y :: R).length + 1 := by simp; omega
    by_cases hroom : (A ++ y :: R).length + 1 ≤ cap
    · exact (sinsert_shift g cap A R y x _ b w ho hlen (by omega) hroom h1 (fun e => hb (by rw [e]; rfl))).mono fun e w' ⟨he, ho', hg'⟩ => ⟨_, he, .inr ⟨g, cap, by rw [hlen'], hg, ho'⟩, hg'⟩
    · exact (sinsert_grow g cap A R y x _ b w ho hlen (by omega) (by omega) h1).mono fun e w' ⟨c, he, ho', hb'⟩ => ⟨_, he, .inr ⟨w.heap.size, c, by rw [hlen'], hB, ho'⟩, hb'.os, hb'.tape, hb'.output, hb'.size, fun k hk _ => hb'.block k hk⟩

/-- why a file is not written -/
def WriteNo (fs : List DF) (name x : List UInt8) (E : Int) : Prop :=
  (goodD fs = false ∧ E = 3) ∨ (GoodD fs ∧ namedB name = false ∧ E = 2) ∨ (GoodD fs ∧ namedB name = true ∧ fs.length = 16 ∧ (∃ A B, Gap fs A B name) ∧ E = 6) ∨
  (GoodD fs ∧ namedB name = true ∧ (∃ A f B, There fs A f B name ∧ 1048576 < f.s.length + f.t.length + x.length) ∧ E = 1) ∨
  (GoodD fs ∧ namedB name = true ∧ fs.length < 16 ∧ (∃ A B, Gap fs A B name) ∧ 1048576 < x.length ∧ E = 1)

set_option maxHeartbeats 2000000 in
theorem write_no (v : Value) (fs : List DF) (name x : List UInt8) (E : Int) (w : World) (hv : DiskV w v fs) (hs : Slim fs) (hnm : name.length ≤ 140737488355328) (hx : x.length ≤ 140737488355328) (h : WriteNo fs name x E) :
    Calls Tryd.prog 39 #[.agg #[v], .string ⟨name.toArray⟩, .string ⟨x.toArray⟩] w fun e w' => e = .returned (.tuple #[.agg #[.slice none 0 0], .int .i64 E]) ∧ Below w.heap.size w w' := by
  have CG := fun W (hW : Below w.heap.size w W) => dgood_any _ fs W (hv.next hW) hs
  have CN := fun W => dnamed name hnm W
  rcases h with ⟨hg, rfl⟩ | ⟨g, hn, rfl⟩ | ⟨g, hn, hl, ⟨A, B, G⟩, rfl⟩ | ⟨g, hn, ⟨A, f, B, T, hlong⟩, rfl⟩ | ⟨g, hn, hl, ⟨A, B, G⟩, hlong, rfl⟩
  · obtain ⟨a, n0, c, rfl⟩ := disk_slice hv
    rw [hg] at CG
    clear hv hs hg CN
    go_enter Tryd.func39, Tryd.ntmps39
    go_wp2_with fail
    have X := Boxes.start w (.slice a n0 c) 35 35
    refine (CG _ X.below).mono ?_
    rintro e w1 ⟨rfl, hb1⟩
    have X1 := X.next hb1
    have HX := hide X1
    have cd := X1.cd
    have cr := X1.cr
    have fr := X1.fr
    clear CG hb1 X X1
    go_wp2_with fail
    exact bodyPost_ret (v := .tuple #[.agg #[.slice none 0 0], .int .i64 3]) (by simp [results, Tryd.results39, go_sem, cr]) rfl ⟨rfl, (unhide HX).below.setCell (by simp) _⟩
  · obtain ⟨a, n0, c, rfl⟩ := disk_slice hv
    rw [goodD_true.2 g] at CG
    rw [hn] at CN
    clear hv hs g hn
    go_enter Tryd.func39, Tryd.ntmps39
    go_wp2_with fail
    have X := Boxes.start w (.slice a n0 c) 35 35
    refine (CG _ X.below).mono ?_
    rintro e w1 ⟨rfl, hb1⟩
    have X1 := X.next hb1
    have HX := hide X1
    have cd := X1.cd
    have cr := X1.cr
    have fr := X1.fr
    clear CG hb1 X X1
    go_wp2_with fail
    refine (CN _).mono ?_
    rintro e w2 ⟨rfl, rfl⟩
    clear CN
    go_wp2_with fail
    exact bodyPost_ret (v := .tuple #[.agg #[.slice none 0 0], .int .i64 2]) (by simp [results, Tryd.results39, go_sem, cr]) rfl ⟨rfl, (unhide HX).below.setCell (by simp) _⟩
  · have CF := fun W (hW : Below w.heap.size w W) => find_gap _ fs A B name W (hv.next hW) g.few G
    have hlen : ∃ a c n0, ((n0 : Nat) : Int) = 16 ∧ v = .slice a n0 c := by
      rcases hv with ⟨a, cap, rfl, rfl, _⟩ | ⟨b, off, cap, rfl, _⟩
      · simp at hl
      · exact ⟨_, _, fs.length, by omega, rfl⟩
    rw [goodD_true.2 g] at CG
    rw [hn] at CN
    obtain ⟨a, c, n0, hn1, rfl⟩ := hlen
    clear hv hs g hn G hl
    go_enter Tryd.func39, Tryd.ntmps39
    go_wp2_with fail
    have X := Boxes.start w (.slice a n0 c) 35 35
    refine (CG _ X.below).mono ?_
    rintro e w1 ⟨rfl, hb1⟩
    have X1 := X.next hb1
    have HX := hide X1
    have cd := X1.cd
    have cr := X1.cr
    have fr := X1.fr
    clear CG hb1 X X1
    go_wp2_with fail
    refine (CN _).mono ?_
    rintro e w2 ⟨rfl, rfl⟩
    clear CN
    go_wp2_with fail
    refine (CF _ (unhide HX).below).mono ?_
    rintro e w3 ⟨rfl, hb3⟩
    have X3 := (unhide HX).next hb3
    clear CF HX cd cr fr
    have HX := hide X3
    have cd := X3.cd
    have cr := X3.cr
    have fr := X3.fr
    clear hb3 X3
    go_wp2_with fail
    exact bodyPost_ret (v := .tuple #[.agg #[.slice none 0 0], .int .i64 6]) (by simp [results, Tryd.results39, go_sem, cr]) rfl ⟨rfl, (unhide HX).below.setCell (by simp) _⟩
  · have CF := fun W (hW : Below w.heap.size w W) => find_there _ fs A B f name W (hv.next hW) g.few T
    have hfl := fileOk_len (T.ok g)
    rw [goodD_true.2 g] at CG
    rw [hn] at CN
    obtain ⟨b, off, cap, rfl, hb, hr, hk, hlt⟩ := there_row hv T
    have HR := hide hr
    have HK := hide hk
    have hlti : (A.length : Int) < (fs.length : Int) := by omega
    have CS := fun W => dsize_any f W (by omega)
    obtain ⟨L, hL⟩ : ∃ L, f.s.length + f.t.length = L := ⟨_, rfl⟩
    rw [hL] at CS hfl hlong
    have hlg : ¬ ((x.length : Int) ≤ 1048576 - (L : Int)) := by omega
    have hsub : IntKind.i64.wrap (1048576 - (L : Int)) = 1048576 - (L : Int) := by rw [IntKind.wrap_i64]; omega
    clear hv hs g hn T hr hk hL
    go_enter Tryd.func39, Tryd.ntmps39
    go_wp2_with fail
    have X := Boxes.start w (.slice (some ⟨b, off, none⟩) fs.length cap) 35 35
    refine (CG _ X.below).mono ?_
    rintro e w1 ⟨rfl, hb1⟩
    have X1 := X.next hb1
    have HX := hide X1
    have cd := X1.cd
    have cr := X1.cr
    have fr := X1.fr
    clear CG hb1 X X1
    go_wp2_with fail
    refine (CN _).mono ?_
    rintro e w2 ⟨rfl, rfl⟩
    clear CN
    go_wp2_with fail
    refine (CF _ (unhide HX).below).mono ?_
    rintro e w3 ⟨rfl, hb3⟩
    have X3 := (unhide HX).next hb3
    clear CF HX cd cr fr
    have HX := hide X3
    have cd := X3.cd
    have cr := X3.cr
    have fr := X3.fr
    have r := (unhide HR).kept X3.below hb
    have e0 := r.c0 (unhide HK)
    have e1 := r.c1 (unhide HK)
    have e2 := r.c2 (unhide HK)
    clear hb3 X3 r
    go_wp2_with fail
    refine (CS _).mono ?_
    rintro e w4 ⟨rfl, hb4⟩
    have X4 := (unhide HX).next hb4
    clear CS HX cd cr fr e0 e1 e2
    have HX := hide X4
    have cd := X4.cd
    have cr := X4.cr
    have fr := X4.fr
    clear hb4 X4
    go_wp2_with fail
    exact bodyPost_ret (v := .tuple #[.agg #[.slice none 0 0], .int .i64 1]) (by simp [results, Tryd.results39, go_sem, cr]) rfl ⟨rfl, (unhide HX).below.setCell (by simp) _⟩
  · have CF := fun W (hW : Below w.heap.size w W) => find_gap _ fs A B name W (hv.next hW) g.few G
    have hlen : ∃ a c, v = .slice a fs.length c := by
      rcases hv with ⟨a, cap, rfl, rfl, _⟩ | ⟨b, off, cap, rfl, _⟩
      · exact ⟨_, _, rfl⟩
      · exact ⟨_, _, rfl⟩
    rw [goodD_true.2 g] at CG
    rw [hn] at CN
    obtain ⟨a, c, rfl⟩ := hlen
    obtain ⟨n0, hn0⟩ : ∃ n0, n0 = fs.length := ⟨_, rfl⟩
    rw [← hn0] at CG CF hl ⊢
    have hl2 : ¬ ((n0 : Int) = 16) := by omega
    have hlg : (1048576 : Int) < (x.length : Int) := by omega
    clear hv hs g hn G hn0
    go_enter Tryd.func39, Tryd.ntmps39
    go_wp2_with fail
    have X := Boxes.start w (.slice a n0 c) 35 35
    refine (CG _ X.below).mono ?_
    rintro e w1 ⟨rfl, hb1⟩
    have X1 := X.next hb1
    have HX := hide X1
    have cd := X1.cd
    have cr := X1.cr
    have fr := X1.fr
    clear CG hb1 X X1
    go_wp2_with fail
    refine (CN _).mono ?_
    rintro e w2 ⟨rfl, rfl⟩
    clear CN
    go_wp2_with fail
    refine (CF _ (unhide HX).below).mono ?_
    rintro e w3 ⟨rfl, hb3⟩
    have X3 := (unhide HX).next hb3
    clear CF HX cd cr fr
    have HX := hide X3
    have cd := X3.cd
    have cr := X3.cr
    have fr := X3.fr
    clear hb3 X3
    go_wp2_with fail
    exact bodyPost_ret (v := .tuple #[.agg #[.slice none 0 0], .int .i64 1]) (by simp [results, Tryd.results39, go_sem, cr]) rfl ⟨rfl, (unhide HX).below.setCell (by simp) _⟩

/-- a box of the call's own that holds a disk -/
def BoxAt (W : World) (k : Nat) (v : Value) : Prop := W.heap[k]? = some (.cells #[v] 35 (0, 0))
theorem BoxAt.c {W : World} {k : Nat} {v : Value} (h : BoxAt W k v) : W.cell? ⟨k, 0, none⟩ = some v := by unfold BoxAt at h; simp [World.cell?, h]
theorem BoxAt.f {W : World} {k : Nat} {v : Value} (h : BoxAt W k v) : W.frozen? ⟨k, 0, none⟩ = false := by unfold BoxAt at h; simp [World.frozen?, h]
theorem BoxAt.next {W V : World} {k : Nat} {v : Value} (h : BoxAt W k v) (hb : Below W.heap.size W V) : BoxAt V k v := (hb.block k (by unfold BoxAt at h; exact (Array.getElem?_eq_some_iff.1 h).1)).trans h
theorem BoxAt.grown {W V : World} {k : Nat} {v : Value} {r : Option Nat} (h : BoxAt W k v) (hb : W.grownBy V r) (hr : some k ≠ r) : BoxAt V k v := (hb.block k (by unfold BoxAt at h; exact (Array.getElem?_eq_some_iff.1 h).1) hr).trans h
theorem BoxAt.set {W : World} {k : Nat} {v : Value} (h : BoxAt W k v) (u : Value) : BoxAt (W.setCell ⟨k, 0, none⟩ u) k u := block_set u h
theorem BoxAt.ne {W : World} {k : Nat} {v : Value} {g cap : Nat} {fs : List DF} (h : BoxAt W k v) (ho : Own W g cap fs) : g ≠ k := by
  rintro rfl
  obtain ⟨rest, h1, _⟩ := ho
  unfold BoxAt at h
  rw [h] at h1
  have := Option.some.inj h1
  simp at this
theorem BoxAt.new (W : World) (v : Value) : BoxAt (W.alloc (.cells #[v] 35)) W.heap.size v := heap_alloc_new W _
theorem Boxes.grownO {w W V : World} {v : Value} {r : Option Nat} (h : Boxes w W v) (hg : W.grownBy V r) (hl : ∀ k, r = some k → w.heap.size + 2 ≤ k) : Boxes w V v := by
  have hs := h.size
  have b0 : V.heap[w.heap.size]? = W.heap[w.heap.size]? := hg.block _ (by omega) (fun e => by have := hl _ e.symm; omega)
  have b1 : V.heap[w.heap.size + 1]? = W.heap[w.heap.size + 1]? := hg.block _ (by omega) (fun e => by have := hl _ e.symm; omega)
  exact ⟨h.below.grown hg (by omega) (fun k e => by have := hl k e; omega), Nat.le_trans h.size hg.size, (World.cell?_of_block b0).trans h.cd, (World.cell?_of_block b1).trans h.cr, (World.frozen?_of_block b1).trans h.fr⟩
theorem Boxes.other {w W : World} {v : Value} (h : Boxes w W v) {k : Nat} (hk : w.heap.size + 2 ≤ k) (j : Nat) (u : Value) : Boxes w (W.setCell ⟨k, j, none⟩ u) v := h.grown (grown_set u) hk

set_option maxHeartbeats 2000000 in
theorem write_there (v : Value) (fs A B : List DF) (f : DF) (name x : List UInt8) (w : World) (hv : DiskV w v fs) (hs : Slim fs) (g : GoodD fs) (T : There fs A f B name) (hfit : f.s.length + f.t.length + x.length ≤ 1048576) :
    Calls Tryd.prog 39 #[.agg #[v], .string ⟨name.toArray⟩, .string ⟨x.toArray⟩] w fun e w' => ∃ v', e = .returned (.tuple #[.agg #[v'], .int .i64 0]) ∧ OwnV w' w.heap.size v' (A ++ ⟨f.n, f.s, f.t ++ x⟩ :: B) ∧ Below w.heap.size w w' := by
  have hn : namedB name = true := by rw [← T.nm]; exact fileOk_named (T.ok g)
  have CG := fun W (hW : Below w.heap.size w W) => dgood_any _ fs W (hv.next hW) hs
  have CN := fun W => dnamed name (by simp only [namedB, Bool.and_eq_true, decide_eq_true_eq] at hn; omega) W
  have CC := fun W (hW : Below w.heap.size w W) => copied_any _ fs W (hv.next hW) hs g.few
  have CF := fun W (hW : Below w.heap.size w W) => find_there _ fs A B f name W (hv.next hW) g.few T
  rw [goodD_true.2 g] at CG
  rw [hn] at CN
  obtain ⟨b, off, cap, rfl, hb, hr, hk, hlt⟩ := there_row hv T
  have HR := hide hr
  have HK := hide hk
  have hlti : (A.length : Int) < (fs.length : Int) := by omega
  have CS := fun W => dsize_any f W (by omega)
  have CT := fun (q c : Nat) (W : World) (ho : Own W q c fs) => extend_any q c A.length fs f x W ho hk (by omega) (by omega)
  have hset : fs.set A.length ⟨f.n, f.s, f.t ++ x⟩ = A ++ ⟨f.n, f.s, f.t ++ x⟩ :: B := by rw [T.eq]; simp
  have hsl : fs.length = (A ++ (⟨f.n, f.s, f.t ++ x⟩ : DF) :: B).length := by rw [T.eq]; simp
  rw [hset] at CT
  obtain ⟨fs', hfs'⟩ : ∃ y, A ++ (⟨f.n, f.s, f.t ++ x⟩ : DF) :: B = y := ⟨_, rfl⟩
  rw [hfs'] at CT hsl ⊢
  have HSL := hide hsl
  obtain ⟨L, hL⟩ : ∃ L, f.s.length + f.t.length = L := ⟨_, rfl⟩
  rw [hL] at CS hfit
  have hlg : (x.length : Int) ≤ 1048576 - (L : Int) := by omega
  have hsub : IntKind.i64.wrap (1048576 - (L : Int)) = 1048576 - (L : Int) := by rw [IntKind.wrap_i64]; omega
  clear hv hs g hn T hr hk hset hfs' hsl hL
  go_enter Tryd.func39, Tryd.ntmps39
  go_wp2_with fail
  have X := Boxes.start w (.slice (some ⟨b, off, none⟩) fs.length cap) 35 35
  refine (CG _ X.below).mono ?_
  rintro e w1 ⟨rfl, hb1⟩
  have X1 := X.next hb1
  have HX := hide X1
  have cd := X1.cd
  have cr := X1.cr
  have fr := X1.fr
  clear CG hb1 X X1
  go_wp2_with fail
  refine (CN _).mono ?_
  rintro e w2 ⟨rfl, rfl⟩
  clear CN
  go_wp2_with fail
  refine (CF _ (unhide HX).below).mono ?_
  rintro e w3 ⟨rfl, hb3⟩
  have X3 := (unhide HX).next hb3
  clear CF HX cd cr fr
  have HX := hide X3
  have cd := X3.cd
  have cr := X3.cr
  have fr := X3.fr
  have r := (unhide HR).kept X3.below hb
  have e0 := r.c0 (unhide HK)
  have e1 := r.c1 (unhide HK)
  have e2 := r.c2 (unhide HK)
  clear hb3 X3 r
  go_wp2_with fail
  refine (CS _).mono ?_
  rintro e w4 ⟨rfl, hb4⟩
  have X4 := (unhide HX).next hb4
  clear CS HX cd cr fr e0 e1 e2
  have HX := hide X4
  have cd := X4.cd
  clear hb4 X4
  go_wp2_with fail
  refine (CC _ (unhide HX).below).mono ?_
  rintro e w5 ⟨v', rfl, ho, hb5⟩
  obtain ⟨q, cap2, rfl, hq, ho⟩ := own_some ho hlt
  have hq2 : w.heap.size + 2 ≤ q := by have := (unhide HX).size; omega
  have X5 := ((unhide HX).next hb5).alloc (.cells #[.slice (some ⟨q, 0, none⟩) fs.length cap2] 35)
  have ho5 := ho.alloc (.cells #[.slice (some ⟨q, 0, none⟩) fs.length cap2] 35)
  have hbx := BoxAt.new w5 (.slice (some ⟨q, 0, none⟩) fs.length cap2)
  have ca := hbx.c
  clear CC hb5 ho HX cd
  go_wp2_with fail
  generalize w5.alloc (.cells #[.slice (some ⟨q, 0, none⟩) fs.length cap2] 35) = W at *
  refine (CT q cap2 W ho5).mono ?_
  rintro e w6 ⟨rfl, ho6, hg6⟩
  have hne := hbx.ne ho5
  have X6 := X5.grown hg6 hq2
  have ca6 := (hbx.grown hg6 (fun e => hne (Option.some.inj e).symm)).c
  have cr := X6.cr
  have fr := X6.fr
  have HB := hide X6.below
  have HO6 := hide ho6
  clear X6 ho6 hg6 X5 ho5 CT ca hbx
  go_wp2_with fail
  exact bodyPost_ret (v := .tuple #[.agg #[.slice (some ⟨q, 0, none⟩) fs.length cap2], .int .i64 0]) (by simp [results, Tryd.results39, go_sem, cr]) rfl
    ⟨_, rfl, .inr ⟨q, cap2, by rw [unhide HSL], by omega, (unhide HO6).other (by show q ≠ w.heap.size + 1; omega) _⟩, (unhide HB).setCell (by simp) _⟩

set_option maxHeartbeats 2000000 in
theorem write_new (v : Value) (fs A B : List DF) (name x : List UInt8) (w : World) (hv : DiskV w v fs) (hs : Slim fs) (g : GoodD fs) (hn : namedB name = true) (hl : fs.length < 16) (G : Gap fs A B name) (hfit : x.length ≤ 1048576) :
    Calls Tryd.prog 39 #[.agg #[v], .string ⟨name.toArray⟩, .string ⟨x.toArray⟩] w fun e w' => ∃ v', e = .returned (.tuple #[.agg #[v'], .int .i64 0]) ∧ OwnV w' w.heap.size v' (A ++ ⟨name, [], x⟩ :: B) ∧ Below w.heap.size w w' := by
  have hnl : name.length ≤ 40 := by simp only [namedB, Bool.and_eq_true, decide_eq_true_eq] at hn; omega
  have CG := fun W (hW : Below w.heap.size w W) => dgood_any _ fs W (hv.next hW) hs
  have CN := fun W => dnamed name (by omega) W
  have CC := fun W (hW : Below w.heap.size w W) => copied_any _ fs W (hv.next hW) hs g.few
  have CF := fun W (hW : Below w.heap.size w W) => find_gap _ fs A B name W (hv.next hW) g.few G
  have CL := fun W => dclone_any name W (by omega)
  have hlen : ∃ a c, v = .slice a fs.length c := by
    rcases hv with ⟨a, cap, rfl, rfl, _⟩ | ⟨b, off, cap, rfl, _⟩
    · exact ⟨_, _, rfl⟩
    · exact ⟨_, _, rfl⟩
  rw [goodD_true.2 g] at CG
  rw [hn] at CN
  obtain ⟨a, c, rfl⟩ := hlen
  have hl2 : ¬ ((fs.length : Int) = 16) := by omega
  have hlg : ¬ ((1048576 : Int) < (x.length : Int)) := by omega
  have CI := fun (v5 : Value) (D k : Nat) (W : World) (ho : OwnV W D v5 fs) (hD : D ≤ W.heap.size) (h1 : One W k ⟨name, [], []⟩) (hk : v5.ownBlock ≠ some k) => sinsert_any v5 A B ⟨name, [], []⟩ D k W (by rw [← G.eq]; exact ho) hD (by rw [← G.eq]; omega) h1 hk
  have CT := fun (q c : Nat) (W : World) (ho : Own W q c (A ++ ⟨name, [], []⟩ :: B)) => extend_any q c A.length _ ⟨name, [], []⟩ x W ho (by simp) hfit (by simp)
  have hset : (A ++ (⟨name, [], []⟩ : DF) :: B).set A.length ⟨name, [], [] ++ x⟩ = A ++ ⟨name, [], x⟩ :: B := by simp
  simp only at CT
  rw [hset] at CT
  have hsl : (A ++ (⟨name, [], []⟩ : DF) :: B).length = (A ++ (⟨name, [], x⟩ : DF) :: B).length := by simp
  have HSL := hide hsl
  have hat : A.length < (A ++ (⟨name, [], []⟩ : DF) :: B).length := by simp
  obtain ⟨f1, hf1⟩ : ∃ y, A ++ (⟨name, [], x⟩ : DF) :: B = y := ⟨_, rfl⟩
  obtain ⟨f0, hf0⟩ : ∃ y, A ++ (⟨name, [], []⟩ : DF) :: B = y := ⟨_, rfl⟩
  rw [hf1] at CT HSL ⊢
  rw [hf0] at CT HSL hat CI
  have HCI := hide CI
  have hati : (A.length : Int) < (f0.length : Int) := by omega
  clear hv hs g hn G hset hsl hf0 hf1 CI
  go_enter Tryd.func39, Tryd.ntmps39
  go_wp2_with fail
  have X := Boxes.start w (.slice a fs.length c) 35 35
  refine (CG _ X.below).mono ?_
  rintro e w1 ⟨rfl, hb1⟩
  have X1 := X.next hb1
  have HX := hide X1
  have cd := X1.cd
  have cr := X1.cr
  have fr := X1.fr
  clear CG hb1 X X1
  go_wp2_with fail
  refine (CN _).mono ?_
  rintro e w2 ⟨rfl, rfl⟩
  clear CN
  go_wp2_with fail
  refine (CF _ (unhide HX).below).mono ?_
  rintro e w3 ⟨rfl, hb3⟩
  have X3 := (unhide HX).next hb3
  clear CF HX cd cr fr
  have HX := hide X3
  have cd := X3.cd
  have cr := X3.cr
  have fr := X3.fr
  clear hb3 X3
  go_wp2_with fail
  refine (CC _ (unhide HX).below).mono ?_
  rintro e w5 ⟨v', rfl, ho, hb5⟩
  have hob := own_block ho
  obtain ⟨a5, c5, rfl, _⟩ := own_slice ho
  have hz := (unhide HX).size
  have X5 := ((unhide HX).next hb5).alloc (.cells #[.slice a5 fs.length c5] 35)
  have ho5 := ho.next ((Below.refl _ _).alloc (Nat.le_refl _) (.cells #[.slice a5 fs.length c5] 35))
  have hbx := BoxAt.new w5 (.slice a5 fs.length c5)
  have haz : (w5.alloc (.cells #[.slice a5 fs.length c5] 35)).heap.size = w5.heap.size + 1 := by simp
  have HOB := hide hob
  have hz35 := hb5.size
  clear CC hb5 ho HX cd hob
  go_wp2_with fail
  generalize w5.alloc (.cells #[.slice a5 fs.length c5] 35) = W at *
  have CI6 : ∀ w6 : World, Below W.heap.size W w6 → Calls Tryd.prog 72 #[.slice a5 fs.length c5, .int .i64 A.length, .slice (some ⟨w6.heap.size, 0, none⟩) 1 1] (w6.alloc (.cells #[.string ⟨name.toArray⟩, .string ⟨#[]⟩, .string ⟨#[]⟩] 62)) fun e w' =>
      ∃ g7 c7, e = .returned (.slice (some ⟨g7, 0, none⟩) f0.length c7) ∧ Hid (w3.heap.size ≤ g7 ∧ Own w' g7 c7 f0 ∧ Boxes w w' (.slice a fs.length c) ∧ BoxAt w' w5.heap.size (.slice a5 fs.length c5)) := fun w6 hb6 => by
    have hal := (Below.refl w6.heap.size w6).alloc (Nat.le_refl _) (.cells #[.string ⟨name.toArray⟩, .string ⟨#[]⟩, .string ⟨#[]⟩] 62)
    have hs6 := hb6.size
    refine (unhide HCI _ w3.heap.size w6.heap.size _ ((ho5.next hb6).next hal) (by have := X5.size; have := own_block ho5; simp; omega) (heap_alloc_new w6 _) (fun e => by have := unhide HOB _ e; omega)).mono ?_
    rintro e w7 ⟨v7, he, ho7, hg7⟩
    obtain ⟨g7, c7, rfl, h7, ho7⟩ := own_some ho7 hat
    exact ⟨g7, c7, he, h7, ho7, ((X5.next hb6).next hal).grownO hg7 (fun k e => by have := unhide HOB k e; omega), ((hbx.next hb6).next hal).grown hg7 (fun e => by have := unhide HOB _ e.symm; omega)⟩
  have ca := hbx.c
  have HBX := hide hbx
  clear X5 ho5 hbx HCI
  have hcx : ∀ w6 : World, Below W.heap.size W w6 → w6.cell? ⟨w5.heap.size, 0, none⟩ = some (.slice a5 fs.length c5) ∧ w5.heap.size < w6.heap.size := fun w6 hb6 => ⟨((unhide HBX).next hb6).c, by have := hb6.size; omega⟩
  have HCX := hide hcx
  have HC6 := hide CI6
  clear hcx CI6
  go_region_with (first
    | (go_at_call 73; refine (CL _).mono ?_; rintro e w6 ⟨rfl, hb6⟩; obtain ⟨ca6, hl6⟩ := unhide HCX w6 (below_drew hb6))
    | (go_at_call 72; refine (unhide HC6 w6 (below_drew hb6)).mono ?_; rintro e w7 ⟨g7, c7, rfl, h7⟩; have ca7 := (unhide h7).2.2.2.c; have fa7 := (unhide h7).2.2.2.f))
  all_goals
    have hz5 : w.heap.size + 2 ≤ w5.heap.size := by omega
    have hne := (unhide h7).2.2.2.ne (unhide h7).2.1
    have ho8 := (unhide h7).2.1.other (a := ⟨w5.heap.size, 0, none⟩) hne (.slice (some ⟨g7, 0, none⟩) f0.length c7)
    have X8 := (unhide h7).2.2.1.other hz5 0 (.slice (some ⟨g7, 0, none⟩) f0.length c7)
    have hb8 := (unhide h7).2.2.2.set (.slice (some ⟨g7, 0, none⟩) f0.length c7)
    have hg7 := (unhide h7).1
    have ca8 := hb8.c
    clear h7 ca7 fa7 ca6 hb6 ca CL HC6 HCX HBX
    generalize w7.setCell ⟨w5.heap.size, 0, none⟩ (.slice (some ⟨g7, 0, none⟩) f0.length c7) = w8 at *
    go_wp2_with fail
    refine (CT g7 c7 w8 ho8).mono ?_
    rintro e w9 ⟨rfl, ho9, hg9⟩
    have X9 := X8.grown hg9 (by omega)
    have ca9 := (hb8.grown hg9 (fun e => hne (Option.some.inj e).symm)).c
    have cr9 := X9.cr
    have fr9 := X9.fr
    have HB := hide X9.below
    have HO9 := hide ho9
    clear X9 ho9 hg9 X8 ho8 CT ca8 hb8 cr fr
    go_wp2_with fail
    exact bodyPost_ret (v := .tuple #[.agg #[.slice (some ⟨g7, 0, none⟩) f0.length c7], .int .i64 0]) (by simp [results, Tryd.results39, go_sem, cr9]) rfl
      ⟨_, rfl, .inr ⟨g7, c7, by rw [unhide HSL], by omega, (unhide HO9).other (by show g7 ≠ w.heap.size + 1; omega) _⟩, (unhide HB).setCell (by simp) _⟩
end Go.Proofs.YtpoblkionpgljaaDoor

namespace Go.Proofs.YtpoblkionpgljaaDoor
open Go.RowKit

def crashF (k : Nat) (f : DF) : DF := ⟨f.n, f.s ++ f.t.take k, []⟩
/-- the first j files have been through the crash -/
def mix (keep : Nat) (fs : List DF) (j : Nat) : List DF := (fs.take j).map (crashF keep) ++ fs.drop j
theorem take_upto (k : Nat) (l : List UInt8) : l.take (min k l.length) = l.take k := by
  by_cases h : k ≤ l.length
  · rw [Nat.min_eq_left h]
  · rw [Nat.min_eq_right (by omega), List.take_length, List.take_of_length_le (by omega)]
theorem mix_zero (keep : Nat) (fs : List DF) : mix keep fs 0 = fs := by simp [mix]
theorem mix_all (keep : Nat) (fs : List DF) : mix keep fs fs.length = fs.map (crashF keep) := by simp [mix]
theorem mix_length (keep : Nat) (fs : List DF) (j : Nat) : (mix keep fs j).length = fs.length := by simp [mix]; omega
theorem mix_get {keep : Nat} {fs : List DF} {j : Nat} {f : DF} (h : fs[j]? = some f) : (mix keep fs j)[j]? = some f := by
  have hl := (List.getElem?_eq_some_iff.1 h).1
  rw [mix, List.getElem?_append_right (by simp; omega)]
  simp [h, Nat.min_eq_left (Nat.le_of_lt hl)]
theorem mix_set {keep : Nat} {fs : List DF} {j : Nat} {f : DF} (h : fs[j]? = some f) : (mix keep fs j).set j (crashF keep f) = mix keep fs (j + 1) := by
  obtain ⟨hl, rfl⟩ := List.getElem?_eq_some_iff.1 h
  have e : fs.drop j = fs[j] :: fs.drop (j + 1) := List.drop_eq_getElem_cons hl
  have hm : ((fs.take j).map (crashF keep)).length = j := by simp; omega
  rw [mix, mix, e, List.set_append_right _ _ (by omega), hm, Nat.sub_self, List.set_cons_zero, List.take_succ_eq_append_getElem hl]
  simp only [List.map_append, List.map_cons, List.map_nil, List.append_assoc, List.cons_append, List.nil_append]

set_option maxHeartbeats 1000000 in
theorem crash_no (v : Value) (fs : List DF) (keep : Int) (w : World) (hv : DiskV w v fs) (hs : Slim fs) (h : goodD fs = false ∨ keep < 0) :
    Calls Tryd.prog 28 #[.agg #[v], .int .i64 keep] w fun e w' => e = .returned (.tuple #[.agg #[.slice none 0 0], .int .i64 3]) ∧ Below w.heap.size w w' := by
  obtain ⟨a, n0, c, rfl⟩ := disk_slice hv
  have C := fun W (hW : Below w.heap.size w W) => dgood_any _ fs W (hv.next hW) hs
  clear hv hs
  cases hg : goodD fs with
  | false =>
    rw [hg] at C
    clear hg h
    go_enter Tryd.func28, Tryd.ntmps28
    go_wp2_with fail
    have X := Boxes.start w (.slice a n0 c) 35 35
    refine (C _ X.below).mono ?_
    rintro e w1 ⟨rfl, hb1⟩
    have X1 := X.next hb1
    have HB := hide X1.below
    have c1 := X1.cr
    have f1 := X1.fr
    clear C hb1 X X1
    go_wp2_with fail
    exact bodyPost_ret (v := .tuple #[.agg #[.slice none 0 0], .int .i64 3]) (by simp [results, Tryd.results28, go_sem, c1]) rfl ⟨rfl, (unhide HB).setCell (by simp) _⟩
  | true =>
    rw [hg] at C h
    have hk : keep < 0 := by rcases h with h | h; · cases h
                             · exact h
    clear hg h
    go_enter Tryd.func28, Tryd.ntmps28
    go_wp2_with fail
    have X := Boxes.start w (.slice a n0 c) 35 35
    refine (C _ X.below).mono ?_
    rintro e w1 ⟨rfl, hb1⟩
    have X1 := X.next hb1
    have HB := hide X1.below
    have c1 := X1.cr
    have f1 := X1.fr
    clear C hb1 X X1
    go_wp2_with fail
    exact bodyPost_ret (v := .tuple #[.agg #[.slice none 0 0], .int .i64 3]) (by simp [results, Tryd.results28, go_sem, c1]) rfl ⟨rfl, (unhide HB).setCell (by simp) _⟩

set_option maxHeartbeats 4000000 in
theorem crash_yes (v : Value) (fs : List DF) (keep : Nat) (w : World) (hv : DiskV w v fs) (hs : Slim fs) (g : GoodD fs) :
    Calls Tryd.prog 28 #[.agg #[v], .int .i64 keep] w fun e w' => ∃ v', e = .returned (.tuple #[.agg #[v'], .int .i64 0]) ∧ OwnV w' w.heap.size v' (fs.map (crashF keep)) ∧ Below w.heap.size w w' := by
  obtain ⟨a, n0, c, rfl⟩ := disk_slice hv
  have C := fun W (hW : Below w.heap.size w W) => dgood_any _ fs W (hv.next hW) hs
  have CC := fun W (hW : Below w.heap.size w W) => copied_any _ fs W (hv.next hW) hs g.few
  rw [goodD_true.2 g] at C
  have hk0 : ¬ ((keep : Int) < 0) := by omega
  have CT := fun (q c : Nat) (j : Nat) (f : DF) (n : Nat) (W : World) (ho : Own W q c (mix keep fs j)) (hj : fs[j]? = some f) (hn : n = f.s.length + min keep f.t.length) =>
    settle_any q c j (mix keep fs j) f n W ho (mix_get hj) (by omega) (fileOk_len (g.ok f (List.mem_of_getElem? hj)))
  have HCT := hide CT
  have HG := hide g
  have hfew := g.few
  clear hv hs g CT
  go_enter Tryd.func28, Tryd.ntmps28
  go_wp2_with fail
  have X := Boxes.start w (.slice a n0 c) 35 35
  refine (C _ X.below).mono ?_
  rintro e w1 ⟨rfl, hb1⟩
  have X1 := X.next hb1
  have HX := hide X1
  have cd := X1.cd
  clear C hb1 X X1
  go_wp2_with fail
  refine (CC _ (unhide HX).below).mono ?_
  rintro e w2 ⟨v', rfl, ho, hb2⟩
  have hz2 := (unhide HX).size
  have X2 := (unhide HX).next hb2
  clear CC HX cd
  rcases ho with ⟨rfl, rfl⟩ | ⟨q, cap, rfl, hq, ho⟩
  · have HX := hide (X2.alloc (.cells #[.slice none 0 0] 35))
    clear X2
    have ca : (w2.alloc (.cells #[.slice none 0 0] 35)).cell? ⟨w2.heap.size, 0, none⟩ = some (.slice none 0 0) := by simp
    go_wp2_with fail
    go_loopg [22] 1 (fun _ s wr => s = .int .i64 0 ∧ Hid (Boxes w wr (.slice a n0 c)) ∧ wr.cell? ⟨w2.heap.size, 0, none⟩ = some (.slice none 0 0))
    case atStart => exact ⟨rfl, HX, ca⟩
    case round =>
      obtain ⟨rfl, hX, hca⟩ := hrel
      have cr := (unhide hX).cr
      have fr := (unhide hX).fr
      go_wp2_with fail
      exact bodyPost_ret (v := .tuple #[.agg #[.slice none 0 0], .int .i64 0]) (by simp [results, Tryd.results28, go_sem, cr]) rfl ⟨_, rfl, .inl ⟨rfl, rfl⟩, (unhide hX).below.setCell (by simp) _⟩
  · have HX := hide (X2.alloc (.cells #[.slice (some ⟨q, 0, none⟩) fs.length cap] 35))
    have HO := hide (ho.alloc (.cells #[.slice (some ⟨q, 0, none⟩) fs.length cap] 35))
    have hql := ho.lt
    have ca : (w2.alloc (.cells #[.slice (some ⟨q, 0, none⟩) fs.length cap] 35)).cell? ⟨w2.heap.size, 0, none⟩ = some (.slice (some ⟨q, 0, none⟩) fs.length cap) := by simp
    have hq2 : w.heap.size + 2 ≤ q := by omega
    clear X2 ho
    go_wp2_with fail
    go_loopg [22] fs.length (fun kx s wr => ∃ k : Nat, s = .int .i64 k ∧ k ≤ fs.length ∧ fs.length - k ≤ kx ∧ Hid (Boxes w wr (.slice a n0 c) ∧ Own wr q cap (mix keep fs k)) ∧ wr.cell? ⟨w2.heap.size, 0, none⟩ = some (.slice (some ⟨q, 0, none⟩) fs.length cap))
    case atStart => exact ⟨0, rfl, Nat.zero_le _, by omega, hide ⟨unhide HX, by rw [mix_zero]; exact unhide HO⟩, ca⟩
    case round =>
      obtain ⟨k, rfl, hk, hkx, hI, hca⟩ := hrel
      clear ca
      by_cases hlt : k < fs.length
      · obtain ⟨f, hf⟩ : ∃ f, fs[k]? = some f := ⟨_, List.getElem?_eq_getElem hlt⟩
        have hfl := fileOk_len ((unhide HG).ok f (List.mem_of_getElem? hf))
        have e1 := (unhide hI).2.c1 (mix_get hf)
        have e2 := (unhide hI).2.c2 (mix_get hf)
        have HF := hide hf
        have CT := fun (n : Nat) (hn : n = f.s.length + min keep f.t.length) => unhide HCT q cap k f n wr.drew (unhide hI).2.drew hf hn
        have hlti : (k : Int) < (fs.length : Int) := by omega
        clear hf
        have CT2 := CT _ rfl
        have hwm : IntKind.i64.wrap ((f.s.length : Int) + min (keep : Int) (f.t.length : Int)) = ((f.s.length + min keep f.t.length : Nat) : Int) := by
          rw [IntKind.wrap_i64]; omega
        have hset : (mix keep fs k).set k ⟨f.n, (f.s ++ f.t).take (f.s.length + min keep f.t.length), []⟩ = mix keep fs (k + 1) := by
          rw [← mix_set (unhide HF), crashF, List.take_length_add_append, take_upto]
        rw [hset] at CT2
        have HW := hide hwm
        clear CT hset hwm
        generalize f.s.length + min keep f.t.length = M at CT2 HW
        go_wp2_with fail
        go_region_with (first | (go_at_call 52; rw [unhide HW]; refine CT2.mono ?_; rintro e w4 ⟨rfl, ho4, hg4⟩))
        all_goals
          have hg5 : wr.grownBy w4 (some q) := ⟨hg4.os, hg4.tape, hg4.output, hg4.size, hg4.block⟩
          have X4 := (unhide hI).1.grown hg5 hq2
          have ca4 : w4.cell? ⟨w2.heap.size, 0, none⟩ = some (.slice (some ⟨q, 0, none⟩) fs.length cap) := hg5.cell hca (fun e => by have e3 : w2.heap.size = q := Option.some.inj e; omega)
          have HI := hide (And.intro X4 ho4)
          clear X4 ho4 hg4 hg5 CT2
          go_wp2_with fail
          go_roundg (fs.length - (k + 1))
          case measure => omega
          case rel => exact ⟨k + 1, rfl, by omega, Nat.le_refl _, HI, ca4⟩
      · have hkk : k = fs.length := by omega
        subst hkk
        have cr := (unhide hI).1.cr
        have fr := (unhide hI).1.fr
        go_wp2_with fail
        exact bodyPost_ret (v := .tuple #[.agg #[.slice (some ⟨q, 0, none⟩) fs.length cap], .int .i64 0]) (by simp [results, Tryd.results28, go_sem, cr]) rfl
          ⟨_, rfl, .inr ⟨q, cap, by simp, by omega, by have := (unhide hI).2; rw [mix_all] at this; exact this.other (by show q ≠ w.heap.size + 1; omega) _⟩, (unhide hI).1.below.setCell (by simp) _⟩
end Go.Proofs.YtpoblkionpgljaaDoor

namespace Go.Proofs.YtpoblkionpgljaaDoor
open Go.RowKit

theorem good_slim {fs : List DF} (g : GoodD fs) : Slim fs := fun f hf => by
  have h := g.ok f hf
  have h1 := fileOk_len h
  have h2 := fileOk_named h
  simp only [namedB, Bool.and_eq_true, decide_eq_true_eq] at h2
  omega
theorem good_set {A B : List DF} {f f' : DF} (g : GoodD (A ++ f :: B)) (hn : f'.n = f.n) (hl : f'.s.length + f'.t.length ≤ 1048576) : GoodD (A ++ f' :: B) := by
  refine ⟨by simpa using g.few, ?_, ?_⟩
  · intro x hx
    rcases List.mem_append.1 hx with h | h
    · exact g.ok x (by simp [h])
    · rcases List.mem_cons.1 h with rfl | h
      · have := fileOk_named (g.ok f (by simp))
        simp [fileOk, hn, this, hl]
      · exact g.ok x (by simp [h])
  · have h := g.asc
    unfold Asc at h ⊢
    rw [List.pairwise_append, List.pairwise_cons] at h ⊢
    refine ⟨h.1, ⟨fun b hb => by rw [hn]; exact h.2.1.1 b hb, h.2.1.2⟩, fun a ha b hb => ?_⟩
    rcases List.mem_cons.1 hb with rfl | hb
    · rw [hn]; exact h.2.2 a ha f (by simp)
    · exact h.2.2 a ha b (by simp [hb])
theorem good_ins {fs A B : List DF} {name : List UInt8} (g : GoodD fs) (G : Gap fs A B name) (hn : namedB name = true) (hl : fs.length < 16) {f' : DF} (hf : f'.n = name) (hs : f'.s.length + f'.t.length ≤ 1048576) : GoodD (A ++ f' :: B) := by
  have g' := g
  rw [G.eq] at g' hl
  refine ⟨by simp at hl ⊢; omega, ?_, ?_⟩
  · intro x hx
    rcases List.mem_append.1 hx with h | h
    · exact g'.ok x (by simp [h])
    · rcases List.mem_cons.1 h with rfl | h
      · simp [fileOk, hf, hn, hs]
      · exact g'.ok x (by simp [h])
  · have h := g'.asc
    unfold Asc at h ⊢
    rw [List.pairwise_append] at h
    rw [List.pairwise_append, List.pairwise_cons]
    refine ⟨h.1, ⟨fun b hb => by rw [hf]; exact G.hi b hb, h.2.1⟩, fun a ha b hb => ?_⟩
    rcases List.mem_cons.1 hb with rfl | hb
    · rw [hf]; exact G.lo a ha
    · exact h.2.2 a ha b hb
theorem good_del {A B : List DF} {f : DF} (g : GoodD (A ++ f :: B)) : GoodD (A ++ B) := by
  refine ⟨by have := g.few; simp at this ⊢; omega, fun x hx => g.ok x (by rcases List.mem_append.1 hx with h | h <;> simp [h]), ?_⟩
  have h := g.asc
  unfold Asc at h ⊢
  exact h.sublist (List.Sublist.append (List.Sublist.refl A) (List.sublist_cons_self f B))
theorem crashF_len (k : Nat) (f : DF) : (crashF k f).s.length + (crashF k f).t.length ≤ f.s.length + f.t.length := by
  simp [crashF]; omega
theorem good_crash {fs : List DF} (g : GoodD fs) (k : Nat) : GoodD (fs.map (crashF k)) := by
  refine ⟨by simpa using g.few, ?_, ?_⟩
  · intro x hx
    obtain ⟨f, hf, rfl⟩ := List.mem_map.1 hx
    have h := g.ok f hf
    have h1 := fileOk_len h
    have h2 := fileOk_named h
    have h3 := crashF_len k f
    simp only [fileOk, Bool.and_eq_true, decide_eq_true_eq]
    exact ⟨h2, by omega⟩
  · have h := g.asc
    unfold Asc at h ⊢
    rw [List.pairwise_map]
    exact h
theorem There.set {fs A B : List DF} {f : DF} {name : List UInt8} (T : There fs A f B name) {f' : DF} (hf : f'.n = name) : There (A ++ f' :: B) A f' B name := ⟨rfl, hf, T.lo, T.hi⟩
theorem Gap.ins {fs A B : List DF} {name : List UInt8} (G : Gap fs A B name) {f' : DF} (hf : f'.n = name) : There (A ++ f' :: B) A f' B name := ⟨rfl, hf, G.lo, G.hi⟩
theorem There.del {fs A B : List DF} {f : DF} {name : List UInt8} (T : There fs A f B name) : Gap (A ++ B) A B name := ⟨rfl, T.lo, T.hi⟩
theorem There.crash {fs A B : List DF} {f : DF} {name : List UInt8} (T : There fs A f B name) (k : Nat) : There (fs.map (crashF k)) (A.map (crashF k)) (crashF k f) (B.map (crashF k)) name :=
  ⟨by rw [T.eq]; simp, T.nm, fun a ha => by obtain ⟨x, hx, rfl⟩ := List.mem_map.1 ha; exact T.lo x hx, fun b hb => by obtain ⟨x, hx, rfl⟩ := List.mem_map.1 hb; exact T.hi x hx⟩

/- what is read -/
def lookD (fs : List DF) (name : List UInt8) : Option DF := fs.find? fun f => decide (f.n = name)
theorem There.look {fs A B : List DF} {f : DF} {name : List UInt8} (T : There fs A f B name) : lookD fs name = some f := by
  rw [lookD, T.eq, List.find?_append, List.find?_eq_none.2 (fun a ha => by simp [bl_ne (T.lo a ha)])]
  simp [T.nm]
theorem Gap.look {fs A B : List DF} {name : List UInt8} (G : Gap fs A B name) : lookD fs name = none := by
  rw [lookD, G.eq, List.find?_append, List.find?_eq_none.2 (fun a ha => by simp [bl_ne (G.lo a ha)]), List.find?_eq_none.2 (fun b hb => by simp [(bl_ne (G.hi b hb)).symm])]
  rfl
noncomputable def readD (fs : List DF) (name : List UInt8) : List UInt8 × Int := if goodD fs = true then match lookD fs name with
  | some f => (f.s ++ f.t, 0)
  | none => ([], 7) else ([], 3)
theorem readD_bad {fs : List DF} {name : List UInt8} (h : goodD fs = false) : readD fs name = ([], 3) := by simp [readD, h]
theorem readD_there {fs A B : List DF} {f : DF} {name : List UInt8} (g : GoodD fs) (T : There fs A f B name) : readD fs name = (f.s ++ f.t, 0) := by simp [readD, goodD_true.2 g, T.look]
theorem readD_gap {fs A B : List DF} {name : List UInt8} (g : GoodD fs) (G : Gap fs A B name) : readD fs name = ([], 7) := by simp [readD, goodD_true.2 g, G.look]
theorem readD_len (fs : List DF) (name : List UInt8) : (readD fs name).1.length ≤ 1048576 := by
  rcases loc_cases fs name with ⟨E, ⟨h, _⟩ | ⟨g, ⟨A, B, G⟩, _⟩⟩ | ⟨g, A, f, B, T⟩
  · rw [readD_bad h]; simp
  · rw [readD_gap g G]; simp
  · rw [readD_there g T]; have := fileOk_len (T.ok g); simp; omega
theorem read_any (v : Value) (fs : List DF) (name : List UInt8) (w : World) (hv : DiskV w v fs) (hs : Slim fs) :
    Calls Tryd.prog 43 #[.agg #[v], .string ⟨name.toArray⟩] w fun e w' => e = .returned (.tuple #[.string ⟨(readD fs name).1.toArray⟩, .int .i64 (readD fs name).2]) ∧ Below w.heap.size w w' := by
  rcases loc_cases fs name with ⟨E, h⟩ | ⟨g, A, f, B, T⟩
  · have h' := read_no v fs name E w hv hs h
    rcases h with ⟨h, rfl⟩ | ⟨g, ⟨A, B, G⟩, rfl⟩
    · rw [readD_bad h]; exact h'
    · rw [readD_gap g G]; exact h'
  · rw [readD_there g T]; exact read_there v fs A B f name w hv hs g T

/- what is written -/
theorem write_cases (fs : List DF) (name x : List UInt8) : (∃ E, E ≠ 0 ∧ WriteNo fs name x E) ∨ (GoodD fs ∧ ∃ A f B, There fs A f B name ∧ f.s.length + f.t.length + x.length ≤ 1048576) ∨
    (GoodD fs ∧ namedB name = true ∧ fs.length < 16 ∧ (∃ A B, Gap fs A B name) ∧ x.length ≤ 1048576) := by
  cases hg : goodD fs with
  | false => exact .inl ⟨3, by decide, .inl ⟨hg, rfl⟩⟩
  | true =>
    have g := goodD_true.1 hg
    cases hn : namedB name with
    | false => exact .inl ⟨2, by decide, .inr (.inl ⟨g, hn, rfl⟩)⟩
    | true =>
      rcases where_is name fs g.asc with ⟨A, f, B, T⟩ | ⟨A, B, G⟩
      · by_cases hl : f.s.length + f.t.length + x.length ≤ 1048576
        · exact .inr (.inl ⟨g, A, f, B, T, hl⟩)
        · exact .inl ⟨1, by decide, .inr (.inr (.inr (.inl ⟨g, hn, ⟨A, f, B, T, by omega⟩, rfl⟩)))⟩
      · have := g.few
        by_cases h16 : fs.length = 16
        · exact .inl ⟨6, by decide, .inr (.inr (.inl ⟨g, hn, h16, ⟨A, B, G⟩, rfl⟩))⟩
        · by_cases hl : x.length ≤ 1048576
          · exact .inr (.inr ⟨g, rfl, by omega, ⟨A, B, G⟩, hl⟩)
          · exact .inl ⟨1, by decide, .inr (.inr (.inr (.inr ⟨g, hn, by omega, ⟨A, B, G⟩, by omega, rfl⟩)))⟩
/-- a file was written: the disk then, and what it held ahead of it -/
structure Wrote (fs : List DF) (name x : List UInt8) (A : List DF) (f' : DF) (B : List DF) (s0 t0 : List UInt8) : Prop where
  good : GoodD fs
  after : GoodD (A ++ f' :: B)
  at_ : There (A ++ f' :: B) A f' B name
  eq : f' = ⟨name, s0, t0 ++ x⟩
  old : (∃ f, There fs A f B name ∧ f.s = s0 ∧ f.t = t0) ∨ (Gap fs A B name ∧ s0 = [] ∧ t0 = [])
theorem Wrote.len {fs A B : List DF} {name x s0 t0 : List UInt8} {f' : DF} (W : Wrote fs name x A f' B s0 t0) : s0.length + t0.length + x.length ≤ 1048576 := by
  have := fileOk_len (W.after.ok f' (by simp))
  rw [W.eq] at this
  simp at this
  omega
theorem Wrote.read {fs A B : List DF} {name x s0 t0 : List UInt8} {f' : DF} (W : Wrote fs name x A f' B s0 t0) : (readD fs name).1 = s0 ++ t0 := by
  rcases W.old with ⟨f, T, h1, h2⟩ | ⟨G, h1, h2⟩
  · rw [readD_there W.good T, h1, h2]
  · rw [readD_gap W.good G, h1, h2]; rfl
theorem write_any (v : Value) (fs : List DF) (name x : List UInt8) (hs : Slim fs) (hnm : name.length ≤ 140737488355328) (hx : x.length ≤ 140737488355328) :
    (∃ E, (E != 0) = true ∧ ∀ w, DiskV w v fs → Calls Tryd.prog 39 #[.agg #[v], .string ⟨name.toArray⟩, .string ⟨x.toArray⟩] w fun e w' => e = .returned (.tuple #[.agg #[.slice none 0 0], .int .i64 E]) ∧ Below w.heap.size w w') ∨
    ∃ A f' B s0 t0, Wrote fs name x A f' B s0 t0 ∧ ∀ w, DiskV w v fs → Calls Tryd.prog 39 #[.agg #[v], .string ⟨name.toArray⟩, .string ⟨x.toArray⟩] w fun e w' => ∃ v', e = .returned (.tuple #[.agg #[v'], .int .i64 0]) ∧ OwnV w' w.heap.size v' (A ++ f' :: B) ∧ Below w.heap.size w w' := by
  rcases write_cases fs name x with ⟨E, h0, h⟩ | ⟨g, A, f, B, T, hl⟩ | ⟨g, hn, hl, ⟨A, B, G⟩, hx'⟩
  · exact .inl ⟨E, by simpa using h0, fun w hv => write_no v fs name x E w hv hs hnm hx h⟩
  · refine .inr ⟨A, ⟨f.n, f.s, f.t ++ x⟩, B, f.s, f.t, ⟨g, good_set (f := f) (by rw [← T.eq]; exact g) rfl (by simp; omega), T.set T.nm, by rw [T.nm], .inl ⟨f, T, rfl, rfl⟩⟩, fun w hv => write_there v fs A B f name x w hv hs g T hl⟩
  · exact .inr ⟨A, ⟨name, [], x⟩, B, [], [], ⟨g, good_ins g G hn hl rfl (by simpa using hx'), G.ins rfl, rfl, .inr ⟨G, rfl, rfl⟩⟩, fun w hv => write_new v fs A B name x w hv hs g hn hl G hx'⟩

end Go.Proofs.YtpoblkionpgljaaDoor

namespace Go.Proofs.YtpoblkionpgljaaDoor
open Go.RowKit

/-- a call on a disk of these files says E, and hands back a disk of those -/
def GivesD (f : FuncId) (args : Value → Array Value) (fs d : List DF) (E : Int) : Prop := ∀ v W, DiskV W v fs → Calls Tryd.prog f (args (.agg #[v])) W fun e w' => ∃ a n c, e = .returned (.tuple #[.agg #[.slice a n c], .int .i64 E]) ∧ Hid (DiskV w' (.slice a n c) d) ∧ Below W.heap.size W w'
theorem gives_no {f : FuncId} {args : Value → Array Value} {fs : List DF} {E : Int} (h : ∀ v W, DiskV W v fs → Calls Tryd.prog f (args (.agg #[v])) W fun e w' => e = .returned (.tuple #[.agg #[.slice none 0 0], .int .i64 E]) ∧ Below W.heap.size W w') : GivesD f args fs [] E :=
  fun v W hv => (h v W hv).mono fun _ w' ⟨he, hb⟩ => ⟨_, _, _, he, DiskV.nil w', hb⟩
theorem gives_own {f : FuncId} {args : Value → Array Value} {fs d : List DF} (h : ∀ v W, DiskV W v fs → Calls Tryd.prog f (args (.agg #[v])) W fun e w' => ∃ v', e = .returned (.tuple #[.agg #[v'], .int .i64 0]) ∧ OwnV w' W.heap.size v' d ∧ Below W.heap.size W w') : GivesD f args fs d 0 :=
  fun v W hv => (h v W hv).mono fun _ w' ⟨v', he, ho, hb⟩ => by
    obtain ⟨a, n, c, rfl⟩ := disk_slice ho.disk
    exact ⟨a, n, c, he, ho.disk, hb⟩
theorem gives_disk {f : FuncId} {args : Value → Array Value} {fs d : List DF} (h : ∀ v W, DiskV W v fs → Calls Tryd.prog f (args (.agg #[v])) W fun e w' => ∃ v', e = .returned (.tuple #[.agg #[v'], .int .i64 0]) ∧ DiskV w' v' d ∧ Below W.heap.size W w') : GivesD f args fs d 0 :=
  fun v W hv => (h v W hv).mono fun _ w' ⟨v', he, ho, hb⟩ => by
    obtain ⟨a, n, c, rfl⟩ := disk_slice ho
    exact ⟨a, n, c, he, ho, hb⟩
end Go.Proofs.YtpoblkionpgljaaDoor
