/-
  What slices.Delete and slices.Insert of one answer, into a row of the call's own of nodes: the walks.
-/
import Derived.Test.YtcplpbelficbeaaGreatDoorRQF
namespace Go.Proofs.YtcplpbelficbeaaGreatDoor
open Go.RowKit

theorem ninfo0 : (Tryz.prog.info? 52).map (fun i => (i.zero, i.size, i.bytes)) = some (some (.agg #[.string ⟨#[]⟩, .string ⟨#[]⟩, .int .i64 0, .int .i64 0, .int .i64 0, .int .i64 0, .int .i64 0, .int .i64 0, .int .i64 0]), 9, 88) := by kernel_rfl
theorem ninfo : ∃ i0, Tryz.prog.info? 52 = some i0 ∧ i0.zero = some (.agg #[.string ⟨#[]⟩, .string ⟨#[]⟩, .int .i64 0, .int .i64 0, .int .i64 0, .int .i64 0, .int .i64 0, .int .i64 0, .int .i64 0]) ∧ i0.size = 9 ∧ i0.bytes = 88 := by
  obtain ⟨i0, h, e⟩ := Option.map_eq_some_iff.1 ninfo0
  simp only [Prod.mk.injEq] at e
  exact ⟨i0, h, e⟩

def nblank : List Value := [.string ⟨#[]⟩, .string ⟨#[]⟩, .int .i64 0, .int .i64 0, .int .i64 0, .int .i64 0, .int .i64 0, .int .i64 0, .int .i64 0]
set_option maxRecDepth 20000 in
theorem nclear1 (w : World) (ty : TypeId) (b o c : Nat) (hc : ∀ j, j < 9 → (w.cell? ⟨b, o + j, none⟩).isSome = true) (hf : ∀ j, j < 9 → w.frozen? ⟨b, o + j, none⟩ = false) :
    (Builtin.clear_ #[24] ty #[.slice (some ⟨b, o, none⟩) 1 c]).run Tryz.prog w = .ok (.tuple #[]) (w.setCells b o nblank) := by
  have hzc : (Builtin.zeroCells (Value.agg #[.string ⟨#[]⟩, .string ⟨#[]⟩, .int .i64 0, .int .i64 0, .int .i64 0, .int .i64 0, .int .i64 0, .int .i64 0, .int .i64 0]).cells 1).toList = nblank := by kernel_rfl
  have hst := run_storeCells_cells (P := Tryz.prog) b o nblank 0 w (by simpa [nblank] using hc) (by simpa [nblank] using hf) (by simp [nblank, Value.oneCell'])
  simp only [Nat.add_zero] at hst
  simp [Builtin.clear_, run_underlying Tryz.underlying24, hzc, hst]

set_option maxRecDepth 20000 in
set_option maxHeartbeats 1000000 in
theorem ndelete_any (g cap : Nat) (A B : List Nd) (f : Nd) (n : Nat) (w : World) (ho : OwnR w g cap (A ++ f :: B)) (hn : n = A.length + B.length + 1) (hsm : n ≤ 400) :
    Calls Tryz.prog 62 #[.slice (some ⟨g, 0, none⟩) n cap, .int .i64 A.length, .int .i64 (A.length + 1 : Nat)] w fun e w' =>
      e = .returned (.slice (some ⟨g, 0, none⟩) (A.length + B.length) cap) ∧ OwnR w' g cap (A ++ B) ∧ w.grownBy w' (some g) := by
  obtain ⟨i0, hi0, hz0, hz1, hz2⟩ := ninfo
  have hle := ho.le
  have hcl := ho.capLe
  simp only [maxLen] at hcl
  rw [List.length_append, List.length_cons] at hle
  have hrow := ho.row
  obtain ⟨AD, hAD, hsrc⟩ : ∃ AD : Addr, (if cap = A.length + 1 then some (⟨g, 0, none⟩ : Addr) else some ⟨g, (A.length + 1) * 9, none⟩) = some AD ∧ Hid (∀ t u, (cellsL B)[t]? = some u → w.drew.cell? (AD.add t) = some u) := by
    by_cases h : cap = A.length + 1
    · refine ⟨⟨g, 0, none⟩, by simp [h], fun t u hu => ?_⟩
      have h0 : B = [] := List.eq_nil_of_length_eq_zero (by omega)
      rw [h0] at hu
      simp [cellsL_nil] at hu
    · refine ⟨⟨g, (A.length + 1) * 9, none⟩, by simp [h], fun t u hu => ?_⟩
      rw [Addr.add_lit]
      have := hrow ((A.length + 1) * 9 + t) u (by
        rw [cellsL_append, List.getElem?_append_right (by rw [cellsN_length]; omega), cellsN_length, cellsL_cons, List.getElem?_append_right (by rw [Lay.len]; show 9 ≤ _; omega)]
        rw [Lay.len, ← hu]; congr 1; show _ - 9 = _; omega)
      rw [Nat.zero_add] at this
      exact this
  have s1 : Hid ((cellsL B).length = B.length * 9) := cellsN_length B
  have s2 : Hid (∀ u ∈ cellsL B, u.oneCell' = true) := cellsL_one B
  have s3 : Hid (∀ t, t < (cellsL B).length → (w.drew.cell? ⟨g, 0 + A.length * 9 + t, none⟩).isSome = true ∧ w.drew.frozen? ⟨g, 0 + A.length * 9 + t, none⟩ = false) := by
    intro t ht
    rw [cellsN_length] at ht
    exact ⟨ho.someN (by omega), ho.frozen _⟩
  obtain ⟨W1, hW1⟩ : ∃ W1, W1 = w.drew.setCells g (0 + A.length * 9) (cellsL B) := ⟨_, rfl⟩
  have ho1 : OwnR W1 g cap (A ++ B) := by rw [hW1, Nat.zero_add]; exact ho.drew.spliceN B (by omega)
  have hg1 : w.grownBy W1 (some g) := by rw [hW1]; have := ngrown_setCells (g := g) (cellsL B) (0 + A.length * 9) w.drew; exact ⟨this.os, this.tape, this.output, this.size, this.block⟩
  have hclr : ∀ ty c, (Builtin.clear_ #[24] ty #[.slice (some ⟨g, (A.length + B.length) * 9, none⟩) 1 c]).run Tryz.prog W1 = .ok (.tuple #[]) (W1.setCells g ((A.length + B.length) * 9) nblank) := fun ty c =>
    nclear1 W1 ty g _ c (fun j hj => ho1.someN (by omega)) (fun j hj => ho1.frozen _)
  have FIN : Hid (OwnR (W1.setCells g ((A.length + B.length) * 9) nblank) g cap (A ++ B) ∧ w.grownBy (W1.setCells g ((A.length + B.length) * 9) nblank) (some g)) :=
    ⟨ho1.spareN nblank _ (by rw [List.length_append]; omega) (by simp [nblank]; omega), ngrown_trans hg1 (ngrown_setCells _ _ _)⟩
  have hW : Hid (W1 = w.drew.setCells g (0 + A.length * 9) (cellsL B)) := hW1
  have hic : A.length ≤ cap := by omega
  have hjc : A.length + 1 ≤ cap := by omega
  have hne : ¬ (cap = A.length + B.length) := by omega
  have hb1 : (0 : Int) ≤ (A.length : Int) + 1 := by omega
  have hb2 : (A.length : Int) ≤ (A.length : Int) + (B.length : Int) := by omega
  have hb3 : (0 : Int) ≤ (A.length : Int) + (B.length : Int) := by omega
  have hs1 : A.length + B.length + 1 - (A.length + B.length) = 1 := by omega
  clear hW1 ho1 hg1 hrow ho
  subst hn
  go_enter Tryz.func62, Tryz.ntmps62
  go_wp2_with fail
  go_region_law (refine step_append_room rfl (.tmp 22) (.tmp 25) 24 rfl 52 i0 9 Tryz.underlying24 hi0 hz1 g 0 A.length cap (by simp [Act.eval, Act.put]) AD B.length (cap - (A.length + 1)) (cellsL B) (by simp [Act.eval, Act.put]) s1.out hsrc.out s2.out (by omega) s3.out ?_; rw [← hW.out])
  go_wp2
  go_ret
  exact ⟨rfl, FIN.out⟩

theorem ncopy3 (w : World) (ty : TypeId) (b o dLen dCap : Nat) (a : Addr) (sLen sCap : Nat) (cs : List Value) (hn : cs.length = Nat.min sLen dLen * 9)
    (hsrc : ∀ j v, cs[j]? = some v → w.cell? (a.add j) = some v) (hc : ∀ j, j < cs.length → (w.cell? ⟨b, o + j, none⟩).isSome = true) (hf : ∀ j, j < cs.length → w.frozen? ⟨b, o + j, none⟩ = false) (h1 : ∀ v ∈ cs, v.oneCell' = true) :
    (Builtin.copy_ #[24, 24] ty #[.slice (some ⟨b, o, none⟩) dLen dCap, .slice (some a) sLen sCap]).run Tryz.prog w = .ok (goInt (Nat.min sLen dLen)) (w.setCells b o cs) := by
  have hl := run_loadCells_list (P := Tryz.prog) w a cs hsrc
  have hst := run_storeCells_cells (P := Tryz.prog) b o cs 0 w (by simpa using hc) (by simpa using hf) h1
  obtain ⟨i0, hi0, hz0, hz1, hz2⟩ := ninfo
  simp [Builtin.copy_, run_underlying Tryz.underlying24, Builtin.lenOf, Builtin.firstCells, sizeOf, typeInfo, hi0, hz1, ← hn, hl, hst]

set_option maxRecDepth 10000 in
set_option maxHeartbeats 1000000 in
/-- at the end -/
theorem ninsert_end (v : Value) (A : List Nd) (x : Nd) (B b : Nat) (w : World) (ho : OwnS w B v A) (hB : B ≤ w.heap.size) (hl : A.length ≤ 400) (h1 : OneR w b x) :
    Calls Tryz.prog 59 #[v, .int .i64 A.length, .slice (some ⟨b, 0, none⟩) 1 1] w fun e w' =>
      ∃ v', e = .returned v' ∧ OwnS w' B v' (A ++ [x]) ∧ w.grownBy w' v.ownBlock ∧ (v'.ownBlock = v.ownBlock ∨ v'.ownBlock = some w.heap.size) := by
  obtain ⟨i0, hi0, hz0, hz1, hz2⟩ := ninfo
  have hrow := ho.row
  have HR := hide hrow
  have H1 := hide h1.row
  have V : ∃ a c, v = .slice a A.length c ∧ A.length ≤ c := by
    rcases ho with ⟨rfl, rfl⟩ | ⟨g, cap, rfl, _, h⟩
    · exact ⟨none, 0, rfl, Nat.le_refl _⟩
    · exact ⟨_, cap, rfl, h.le⟩
  obtain ⟨a, c, rfl, hc⟩ := V
  clear ho hrow h1
  rcases Nat.lt_or_ge A.length c with hcl | hcl
  · have hne : ¬ c = A.length := by omega
    go_enter Tryz.func59, Tryz.ntmps59
    go_wp2_with (at_builtin; refine wpList_append_own_at _ rfl _ _ 24 rfl B 52 i0 _ 9 88 Tryz.underlying24 hi0 hz0 hz1 hz2 rfl (by decide) _ A.length (cellsL A) rfl (unhide HR) ⟨b, 0, none⟩ 1 1 (ncells x) rfl (by rfl) ?qc2 ((Lay.one x)) ?qc4 ?qc5 hB ?_)
    case qc2 =>
      intro j u hj
      rw [Addr.add_lit]
      exact unhide H1 j u hj
    case qc4 => simp only [maxLen]; omega
    case qc5 => omega
    intro v' w1 hown hgrow _ hloc
    go_wp2
    go_ret
    exact ⟨v', rfl, OwnS.of_row (by rw [List.length_append, cellsL_snoc]; exact hown), hgrow, hloc⟩
  · obtain rfl : c = A.length := by omega
    go_enter Tryz.func59, Tryz.ntmps59
    go_wp2_with (at_builtin; refine wpList_append_own_at _ rfl _ _ 24 rfl B 52 i0 _ 9 88 Tryz.underlying24 hi0 hz0 hz1 hz2 rfl (by decide) _ A.length (cellsL A) rfl (unhide HR) ⟨b, 0, none⟩ 1 1 (ncells x) rfl (by rfl) ?qc2 ((Lay.one x)) ?qc4 ?qc5 hB ?_)
    case qc2 =>
      intro j u hj
      rw [Addr.add_lit]
      exact unhide H1 j u hj
    case qc4 => simp only [maxLen]; omega
    case qc5 => omega
    intro v' w1 hown hgrow _ hloc
    go_wp2
    go_ret
    exact ⟨v', rfl, OwnS.of_row (by rw [List.length_append, cellsL_snoc]; exact hown), hgrow, hloc⟩

set_option maxRecDepth 10000 in
set_option maxHeartbeats 2000000 in
/-- there is room -/
theorem ninsert_shift (g cap : Nat) (A R : List Nd) (y x : Nd) (n b : Nat) (w : World) (ho : OwnR w g cap (A ++ y :: R)) (hn : n = A.length + R.length + 1) (hsm : n ≤ 400) (hroom : n + 1 ≤ cap) (h1 : OneR w b x) (hbg : b ≠ g) :
    Calls Tryz.prog 59 #[.slice (some ⟨g, 0, none⟩) n cap, .int .i64 A.length, .slice (some ⟨b, 0, none⟩) 1 1] w fun e w' =>
      e = .returned (.slice (some ⟨g, 0, none⟩) (n + 1) cap) ∧ OwnR w' g cap (A ++ x :: y :: R) ∧ w.grownBy w' (some g) := by
  have hcl := ho.capLe
  simp only [maxLen] at hcl
  have hrow := ho.row
  have hshg : w.shape? g = some (52, cap * 9) := by
    obtain ⟨rest, q1, q2, _⟩ := ho
    rw [List.length_append, List.length_cons] at q2
    simp [World.shape?, q1, cellsN_length]
    exact ⟨rfl, q2⟩
  have hshb : w.shape? b = some (52, 9) := by unfold OneR at h1; simp [World.shape?, h1]; exact ⟨rfl, rfl⟩
  have hfb : ∀ j, w.frozen? ⟨b, j, none⟩ = false := fun j => by unfold OneR at h1; simp [World.frozen?, h1]
  have hov : ∀ lb cb, (callFunc 78 #[.slice (some ⟨b, 0, none⟩) 1 1, .slice (some ⟨g, (A.length + 1) * 9, none⟩) lb cb]).run Tryz.prog w = .ok (.value (.bool false)) w := fun lb cb => by
    rw [run_callFunc_extern Tryz.func78 (by kernel_rfl) (by kernel_rfl) (by kernel_rfl) (e := Extern.SlicesOverlaps.overlaps #[24, 24] #[4]) (by kernel_rfl),
      Lib.run_overlaps_apart w 24 4 52 Tryz.underlying24 9 Tryz.sizeOf52 ⟨b, 0, none⟩ ⟨g, (A.length + 1) * 9, none⟩ 1 1 lb cb hbg 52 52 9 (cap * 9) hshb hshg (by omega) (hfb 0) (hfb 9)]
    rfl
  obtain ⟨W1, hW1⟩ : ∃ W1, W1 = w.drew.setCells g ((A.length + 1) * 9) (cellsL (y :: R)) := ⟨_, rfl⟩
  have ho1 : OwnR W1 g cap (A ++ y :: y :: R) := by
    have h : OwnR w.drew g cap ((A ++ [y]) ++ R) := by rw [List.append_assoc]; exact ho
    have := h.spliceN (y :: R) (by simp; omega)
    rw [hW1]
    simpa using this
  have hg1 : w.grownBy W1 (some g) := by rw [hW1]; have := ngrown_setCells (g := g) (cellsL (y :: R)) ((A.length + 1) * 9) w.drew; exact ⟨this.os, this.tape, this.output, this.size, this.block⟩
  have hcp1 : ∀ ty dc sc, (Builtin.copy_ #[24, 24] ty #[.slice (some ⟨g, (A.length + 1) * 9, none⟩) (n - A.length) dc, .slice (some ⟨g, A.length * 9, none⟩) (n + 1 - A.length) sc]).run Tryz.prog w.drew = .ok (goInt (Nat.min (n + 1 - A.length) (n - A.length))) W1 := fun ty dc sc => by
    rw [hW1]
    exact ncopy3 w.drew ty g _ _ dc ⟨g, A.length * 9, none⟩ _ sc (cellsL (y :: R)) (by rw [cellsN_length]; simp only [Nat.min_def, List.length_cons]; split <;> omega)
      (fun j v hj => by
        rw [Addr.add_lit]
        have := hrow (A.length * 9 + j) v (by rw [cellsL_append, List.getElem?_append_right (by rw [cellsN_length]; omega), cellsN_length, Nat.add_sub_cancel_left]; exact hj)
        rw [Nat.zero_add] at this
        exact this)
      (fun j hj => by rw [cellsN_length] at hj; exact ho.someN (by simp at hj; omega)) (fun j _ => ho.frozen _) (cellsL_one _)
  have hcp2 : ∀ ty dc, (Builtin.copy_ #[24, 24] ty #[.slice (some ⟨g, A.length * 9, none⟩) (n + 1 - A.length) dc, .slice (some ⟨b, 0, none⟩) 1 1]).run Tryz.prog W1 = .ok (goInt (Nat.min 1 (n + 1 - A.length))) (W1.setCells g (A.length * 9) (ncells x)) := fun ty dc =>
    ncopy3 W1 ty g _ _ dc ⟨b, 0, none⟩ 1 1 (ncells x) (by simp only [Nat.min_def, ncells, List.length_cons, List.length_nil]; split <;> omega)
      (fun j v hj => by
        rw [Addr.add_lit]
        have hb2 : W1.heap[b]? = w.heap[b]? := hg1.block b (by unfold OneR at h1; exact (Array.getElem?_eq_some_iff.1 h1).1) (fun e => hbg (Option.some.inj e))
        have h2 : OneR W1 b x := hb2.trans h1
        exact h2.row j v hj)
      (fun j hj => ho1.someN (by simp [ncells] at hj; omega)) (fun j _ => ho1.frozen _) ((Lay.one x))
  have FIN : Hid (OwnR (W1.setCells g (A.length * 9) (ncells x)) g cap (A ++ x :: y :: R) ∧ w.grownBy (W1.setCells g (A.length * 9) (ncells x)) (some g)) :=
    ⟨ho1.swapN x, ngrown_trans hg1 (ngrown_setCells _ _ _)⟩
  have hin : A.length < n := by omega
  have hini : (A.length : Int) < (n : Int) := by omega
  have hw1 : IntKind.i64.wrap ((A.length : Int) + 1) = (A.length : Int) + 1 := by rw [IntKind.wrap_i64]; omega
  have hb1 : (0 : Int) ≤ (A.length : Int) + 1 := by omega
  have hb2 : ¬ (cap = A.length + 1) := by omega
  have hb3 : (A.length : Int) ≤ (n : Int) + 1 := by omega
  have hb4 : ¬ (cap = A.length) := by omega
  have hb5 : (A.length : Int) + 1 ≤ (n : Int) + 1 := by omega
  have hb6 : ¬ ((cap : Int) < (n : Int) + 1) := by omega
  have hz2 : ¬ ((A.length : Int) = (n : Int)) := by omega
  have htn : ((A.length : Int) + 1).toNat = A.length + 1 := by omega
  clear hW1 ho1 hg1 hrow hshg hshb hfb ho h1 hn
  go_enter Tryz.func59, Tryz.ntmps59
  go_wp2_with (simp only [hov])
  go_region_law (refine step_copy_runN rfl (.tmp 73) (.tmp 76) 24 24 rfl (.slice (some ⟨g, (A.length + 1) * 9, none⟩) (n - A.length) (cap - (A.length + 1))) (.slice (some ⟨g, A.length * 9, none⟩) (n + 1 - A.length) (cap - A.length)) (by simp [Act.eval, Act.put]) (by simp [Act.eval, Act.put]) (hcp1 _ _ _) ?_)
  go_wp2_with (at_builtin; refine wpList_copy_runN _ rfl _ _ 24 24 rfl _ _ rfl rfl (hcp2 _ _) ?_)
  go_ret
  exact ⟨rfl, FIN.out⟩

theorem nzeros (k : Nat) : (Builtin.zeroCells (Value.agg #[.string ⟨#[]⟩, .string ⟨#[]⟩, .int .i64 0, .int .i64 0, .int .i64 0, .int .i64 0, .int .i64 0, .int .i64 0, .int .i64 0]).cells k).size = k * 9 := by
  simp [Builtin.zeroCells, Value.cells]

set_option maxRecDepth 10000 in
set_option maxHeartbeats 2000000 in
/-- there is no room -/
theorem ninsert_grow (g cap : Nat) (A R : List Nd) (y x : Nd) (n b : Nat) (w : World) (ho : OwnR w g cap (A ++ y :: R)) (hn : n = A.length + R.length + 1) (hsm : n ≤ 400) (hroom : cap < n + 1) (h1 : OneR w b x) :
    Calls Tryz.prog 59 #[.slice (some ⟨g, 0, none⟩) n cap, .int .i64 A.length, .slice (some ⟨b, 0, none⟩) 1 1] w fun e w' =>
      ∃ cap', e = .returned (.slice (some ⟨w.heap.size, 0, none⟩) (n + 1) cap') ∧ OwnR w' w.heap.size cap' (A ++ x :: y :: R) ∧ Below w.heap.size w w' := by
  have hcap : cap = n := by have := ho.le; simp at this; omega
  obtain ⟨i0, hi0, hz0, hz1, hz2⟩ := ninfo
  have hrow := ho.row
  have hgw := ho.lt
  have hbw : b < w.heap.size := by unfold OneR at h1; exact (Array.getElem?_eq_some_iff.1 h1).1
  have hold : (Builtin.firstCells i0.size A.length (.slice (some ⟨g, 0, none⟩) A.length cap)).run Tryz.prog w.drew = .ok (cellsL A).toArray w.drew := by
    rw [hz1]
    exact run_firstCells_some w.drew 9 A.length ⟨g, 0, none⟩ A.length cap (cellsL A) (cellsN_length A) (fun j v hj => by
      rw [Addr.add_lit]
      exact hrow j v (by rw [cellsL_append, List.getElem?_append_left (List.getElem?_eq_some_iff.1 hj).1]; exact hj))
  obtain ⟨G, hG⟩ : ∃ G, G = grownCap w (n + 1) cap 52 := ⟨_, rfl⟩
  have hGn : n + 1 ≤ G := by rw [hG]; exact grownCap_ge w _ _ _
  have hGm : G ≤ maxLen := by rw [hG]; exact grownCap_le_maxLen w (n + 1) cap _ (by unfold maxLen; omega)
  have hG63 : G ≤ 9223372036854775807 := by have := hGm; unfold maxLen at this; omega
  obtain ⟨ROW, hROW⟩ : ∃ ROW : Array Value, ROW = (cellsL A).toArray ++ Builtin.zeroCells (Value.agg #[.string ⟨#[]⟩, .string ⟨#[]⟩, .int .i64 0, .int .i64 0, .int .i64 0, .int .i64 0, .int .i64 0, .int .i64 0, .int .i64 0]).cells (n + 1 - A.length) ++ Builtin.zeroCells (Value.agg #[.string ⟨#[]⟩, .string ⟨#[]⟩, .int .i64 0, .int .i64 0, .int .i64 0, .int .i64 0, .int .i64 0, .int .i64 0, .int .i64 0]).cells (G - (n + 1)) := ⟨_, rfl⟩
  obtain ⟨W1, hW1⟩ : ∃ W1, W1 = w.drew.alloc (.cells ROW 52) := ⟨_, rfl⟩
  have hik : A.length + (n + 1 - A.length) = n + 1 := by omega
  have hrz : ∀ ty, (Builtin.append_ #[24, 3] ty #[.slice (some ⟨g, 0, none⟩) A.length cap, .int .i64 ((n : Int) + 1 - (A.length : Int))]).run Tryz.prog w =
      .ok (.slice (some ⟨w.heap.size, 0, none⟩) (n + 1) G) W1 := fun ty => by
    have h := Lib.run_append_grow_zeros w 24 3 ty 52 i0 _ .i64 .i64 Tryz.underlying24 Tryz.underlying3 hi0 hz0 (some ⟨g, 0, none⟩) A.length cap (cellsL A) hold (n + 1 - A.length) (by omega) (by omega) (by omega) (by omega) (by rw [hz2]; omega) (by rw [hz2, hik]; exact growslice_fits hroom (by omega))
    rw [hik, ← hG, ← hROW, ← hW1] at h
    rw [show (n : Int) + 1 - (A.length : Int) = ((n + 1 - A.length : Nat) : Int) by omega]
    exact h
  have ho1 : OwnR W1 w.heap.size G A := by
    refine ⟨(Builtin.zeroCells (Value.agg #[.string ⟨#[]⟩, .string ⟨#[]⟩, .int .i64 0, .int .i64 0, .int .i64 0, .int .i64 0, .int .i64 0, .int .i64 0, .int .i64 0]).cells (n + 1 - A.length) ++ Builtin.zeroCells (Value.agg #[.string ⟨#[]⟩, .string ⟨#[]⟩, .int .i64 0, .int .i64 0, .int .i64 0, .int .i64 0, .int .i64 0, .int .i64 0, .int .i64 0]).cells (G - (n + 1))).toList, ?_, ?_, by omega, hGm⟩
    · rw [hW1, hROW]
      have := heap_alloc_new w.drew (.cells ((cellsL A).toArray ++ Builtin.zeroCells (Value.agg #[.string ⟨#[]⟩, .string ⟨#[]⟩, .int .i64 0, .int .i64 0, .int .i64 0, .int .i64 0, .int .i64 0, .int .i64 0, .int .i64 0]).cells (n + 1 - A.length) ++ Builtin.zeroCells (Value.agg #[.string ⟨#[]⟩, .string ⟨#[]⟩, .int .i64 0, .int .i64 0, .int .i64 0, .int .i64 0, .int .i64 0, .int .i64 0, .int .i64 0]).cells (G - (n + 1))) 52)
      refine Eq.trans this ?_
      congr 2
      apply Array.toList_inj.1
      simp
    · simp only [show Lay.k Nd = 9 from rfl, Array.length_toList, Array.size_append, nzeros]; omega
  have hB1 : Below w.heap.size w W1 := by rw [hW1]; exact ((Below.refl _ w).drew).alloc (Nat.le_refl _) _
  obtain ⟨W2, hW2⟩ : ∃ W2, W2 = W1.setCells w.heap.size (A.length * 9) (ncells x) := ⟨_, rfl⟩
  have ho2 : OwnR W2 w.heap.size G (A ++ [x]) := by
    have h : OwnR W1 w.heap.size G (A ++ []) := by rw [List.append_nil]; exact ho1
    have := h.spliceN [x] (by simp; omega)
    rw [hW2]
    rw [cellsL_cons, cellsL_nil, List.append_nil] at this
    exact this
  have hg2 : W1.grownBy W2 (some w.heap.size) := by rw [hW2]; exact ngrown_setCells _ _ _
  have hB2 : Below w.heap.size w W2 := hB1.grown hg2 hB1.size (fun k e => by cases e; exact Nat.le_refl _)
  have hcpA : ∀ ty dc, (Builtin.copy_ #[24, 24] ty #[.slice (some ⟨w.heap.size, A.length * 9, none⟩) (n + 1 - A.length) dc, .slice (some ⟨b, 0, none⟩) 1 1]).run Tryz.prog W1 = .ok (goInt (Nat.min 1 (n + 1 - A.length))) W2 := fun ty dc => by
    rw [hW2]
    exact ncopy3 W1 ty w.heap.size _ _ dc ⟨b, 0, none⟩ 1 1 (ncells x) (by simp only [Nat.min_def, ncells, List.length_cons, List.length_nil]; split <;> omega)
      (fun j v hj => by rw [Addr.add_lit]; exact (show OneR W1 b x from (hB1.block b hbw).trans h1).row j v hj)
      (fun j hj => ho1.someN (by simp [ncells] at hj; omega)) (fun j _ => ho1.frozen _) ((Lay.one x))
  obtain ⟨W3, hW3⟩ : ∃ W3, W3 = W2.drew.setCells w.heap.size ((A.length + 1) * 9) (cellsL (y :: R)) := ⟨_, rfl⟩
  have hcpB : ∀ ty dc sc, (Builtin.copy_ #[24, 24] ty #[.slice (some ⟨w.heap.size, (A.length + 1) * 9, none⟩) (n - A.length) dc, .slice (some ⟨g, A.length * 9, none⟩) (n - A.length) sc]).run Tryz.prog W2.drew = .ok (goInt (Nat.min (n - A.length) (n - A.length))) W3 := fun ty dc sc => by
    rw [hW3]
    exact ncopy3 W2.drew ty w.heap.size _ _ dc ⟨g, A.length * 9, none⟩ _ sc (cellsL (y :: R)) (by rw [cellsN_length]; simp only [Nat.min_self, List.length_cons]; omega)
      (fun j v hj => by
        rw [Addr.add_lit]
        have := hrow (A.length * 9 + j) v (by rw [cellsL_append, List.getElem?_append_right (by rw [cellsN_length]; omega), cellsN_length, Nat.add_sub_cancel_left]; exact hj)
        rw [Nat.zero_add] at this
        exact (hB2.cell (p := ⟨g, A.length * 9 + j, none⟩) hgw).trans this)
      (fun j hj => by rw [cellsN_length] at hj; exact ho2.drew.someN (by simp at hj; omega)) (fun j _ => ho2.drew.frozen _) (cellsL_one _)
  have FIN : Hid (OwnR W3 w.heap.size G (A ++ x :: y :: R) ∧ Below w.heap.size w W3) := by
    refine ⟨?_, ?_⟩
    · have h : OwnR W2.drew w.heap.size G ((A ++ [x]) ++ []) := by rw [List.append_nil]; exact ho2
      have := h.spliceN (y :: R) (by simp; omega)
      rw [hW3]
      simpa using this
    · rw [hW3]; exact hB2.drew.grown (ngrown_setCells _ _ _) hB2.size (fun k e => by cases e; exact Nat.le_refl _)
  have hin : A.length < n := by omega
  have hini : (A.length : Int) < (n : Int) := by omega
  have hw1 : IntKind.i64.wrap ((A.length : Int) + 1) = (A.length : Int) + 1 := by rw [IntKind.wrap_i64]; omega
  have hb1 : (0 : Int) ≤ (A.length : Int) + 1 := by omega
  have hb2 : ¬ (G = A.length + 1) := by omega
  have hb3 : (A.length : Int) ≤ (n : Int) + 1 := by omega
  have hb4 : ¬ (n = A.length) := by omega
  have hb5 : (A.length : Int) + 1 ≤ (n : Int) + 1 := by omega
  have hb6 : ¬ (G = A.length) := by omega
  have hb7 : (A.length : Int) ≤ (n : Int) := by omega
  have hz3 : ¬ ((A.length : Int) = (n : Int)) := by omega
  have htn : ((A.length : Int) + 1).toNat = A.length + 1 := by omega
  subst hcap
  clear hn hROW hW1 hW2 hW3 hG hrow ho h1 ho1 ho2 hB1 hB2 hg2 hold hik
  go_enter Tryz.func59, Tryz.ntmps59
  go_wp2_with (first
    | (at_builtin; refine Lib.wpList_append_run _ rfl _ _ _ _ rfl _ _ rfl rfl _ _ (hrz _) ?_)
    | (at_builtin; refine wpList_copy_runN _ rfl _ _ 24 24 rfl _ _ rfl rfl (hcpA _ _) ?_))
  go_region_law (refine step_copy_runN rfl (.tmp 50) (.tmp 53) 24 24 rfl (.slice (some ⟨w.heap.size, (A.length + 1) * 9, none⟩) (cap - A.length) (G - (A.length + 1))) (.slice (some ⟨g, A.length * 9, none⟩) (cap - A.length) (cap - A.length)) (by simp [Act.eval, Act.put]) (by simp [Act.eval, Act.put]) (hcpB _ _ _) ?_)
  go_wp2
  go_ret
  exact ⟨G, rfl, FIN.out⟩

theorem ninsert_any (v : Value) (A R : List Nd) (x : Nd) (q : Nat) (w : World) (ho : OwnS w 0 v (A ++ R)) (hl : (A ++ R).length ≤ 400) (h1 : OneR w q x) (hq : v.ownBlock ≠ some q) :
    Calls Tryz.prog 59 #[v, .int .i64 A.length, .slice (some ⟨q, 0, none⟩) 1 1] w fun e w' =>
      ∃ v', e = .returned v' ∧ OwnS w' 0 v' (A ++ x :: R) ∧ w.grownBy w' v.ownBlock ∧ (v'.ownBlock = v.ownBlock ∨ ∃ k, w.heap.size ≤ k ∧ v'.ownBlock = some k) := by
  cases R with
  | nil =>
    rw [List.append_nil] at ho hl
    refine (ninsert_end v A x 0 q w ho (Nat.zero_le _) hl h1).mono ?_
    rintro e w' ⟨v', rfl, h2, h3, h4⟩
    refine ⟨v', rfl, h2, h3, ?_⟩
    rcases h4 with h | h
    · exact .inl h
    · exact .inr ⟨_, Nat.le_refl _, h⟩
  | cons y R =>
    rcases ho with ⟨_, h⟩ | ⟨g, cap, rfl, _, ho⟩
    · simp at h
    · have hn : (A ++ y :: R).length = A.length + R.length + 1 := by simp; omega
      by_cases hc : (A ++ y :: R).length + 1 ≤ cap
      · refine (ninsert_shift g cap A R y x _ q w ho hn hl hc h1 (fun e => hq (by rw [e]; rfl))).mono ?_
        rintro e w' ⟨rfl, h2, h3⟩
        exact ⟨_, rfl, .inr ⟨g, cap, by simp; omega, Nat.zero_le _, h2⟩, h3, .inl rfl⟩
      · refine (ninsert_grow g cap A R y x _ q w ho hn hl (by omega) h1).mono ?_
        rintro e w' ⟨cap', rfl, h2, h3⟩
        exact ⟨_, rfl, .inr ⟨w.heap.size, cap', by simp; omega, Nat.zero_le _, h2⟩, ⟨h3.os, h3.tape, h3.output, h3.size, fun k hk _ => h3.block k hk⟩, .inr ⟨_, Nat.le_refl _, rfl⟩⟩

end Go.Proofs.YtcplpbelficbeaaGreatDoor
