/-
  What slices.Delete and slices.Insert of one answer, into a row of the call's own of nodes: the walks.
  What slices.Delete and slices.Insert of one answer, into a row of the call's own of numbers: the walks.
  What a transaction makes of a tree, as plain lists; that good trees stay good. No program is named here.
  The answer of Apply, as plain lists; that what comes of a good tree is a good one; a session's nodes, taken away one by one. No program is named here.
  A tree under change: what tree.copied and growth's tell and parentChanges do: the walks.
-/
import Derived.Test.YtaoflcmeiaffjaaGreatDoorTI
import Derived.Test.YtaoflcmeiaffjaaGreatDoorTC
namespace Go.Proofs.YtaoflcmeiaffjaaGreatDoor
open Go.RowKit

theorem ninfo0 : (Tryz.prog.info? 97).map (fun i => (i.zero, i.size, i.bytes)) = some (some (.agg #[.string ⟨#[]⟩, .string ⟨#[]⟩, .int .i64 0, .int .i64 0, .int .i64 0, .int .i64 0, .int .i64 0, .int .i64 0, .int .i64 0]), 9, 88) := by kernel_rfl
theorem ninfo : ∃ i0, Tryz.prog.info? 97 = some i0 ∧ i0.zero = some (.agg #[.string ⟨#[]⟩, .string ⟨#[]⟩, .int .i64 0, .int .i64 0, .int .i64 0, .int .i64 0, .int .i64 0, .int .i64 0, .int .i64 0]) ∧ i0.size = 9 ∧ i0.bytes = 88 := by
  obtain ⟨i0, h, e⟩ := Option.map_eq_some_iff.1 ninfo0
  simp only [Prod.mk.injEq] at e
  exact ⟨i0, h, e⟩

def nblank : List Value := [.string ⟨#[]⟩, .string ⟨#[]⟩, .int .i64 0, .int .i64 0, .int .i64 0, .int .i64 0, .int .i64 0, .int .i64 0, .int .i64 0]
set_option maxRecDepth 20000 in
theorem nclear1 (w : World) (ty : TypeId) (b o c : Nat) (hc : ∀ j, j < 9 → (w.cell? ⟨b, o + j, none⟩).isSome = true) (hf : ∀ j, j < 9 → w.frozen? ⟨b, o + j, none⟩ = false) :
    (Builtin.clear_ #[28] ty #[.slice (some ⟨b, o, none⟩) 1 c]).run Tryz.prog w = .ok (.tuple #[]) (w.setCells b o nblank) := by
  have hzc : (Builtin.zeroCells (Value.agg #[.string ⟨#[]⟩, .string ⟨#[]⟩, .int .i64 0, .int .i64 0, .int .i64 0, .int .i64 0, .int .i64 0, .int .i64 0, .int .i64 0]).cells 1).toList = nblank := by kernel_rfl
  have hst := run_storeCells_cells (P := Tryz.prog) b o nblank 0 w (by simpa [nblank] using hc) (by simpa [nblank] using hf) (by simp [nblank, Value.oneCell'])
  simp only [Nat.add_zero] at hst
  simp [Builtin.clear_, run_underlying Tryz.underlying28, hzc, hst]

set_option maxRecDepth 20000 in
set_option maxHeartbeats 1000000 in
theorem ndelete_any (g cap : Nat) (A B : List Nd) (f : Nd) (n : Nat) (w : World) (ho : OwnR w g cap (A ++ f :: B)) (hn : n = A.length + B.length + 1) (hsm : n ≤ 400) :
    Calls Tryz.prog 191 #[.slice (some ⟨g, 0, none⟩) n cap, .int .i64 A.length, .int .i64 (A.length + 1 : Nat)] w fun e w' =>
      e = .returned (.slice (some ⟨g, 0, none⟩) (A.length + B.length) cap) ∧ OwnR w' g cap (A ++ B) ∧ w.grownBy w' (some g) := by
  obtain ⟨i0, hi0, hz0, hz1, hz2⟩ := ninfo
  have hle := ho.le
  have hcl := ho.capLe
  simp only [maxLen] at hcl
  rw [List.length_append, List.length_cons] at hle
  have hrow := ho.row
  obtain ⟨AD, hAD, hsrc⟩ : ∃ AD : Addr, (if cap = A.length + 1 then some (⟨g, 0, none⟩ : Addr) else some ⟨g, (A.length + 1) * 9, none⟩) = some AD ∧ Hid (∀ t u, (cellsL B)[t]? = some u → w.drew.cell? (AD.add t) = some u) := by
    by_cases h : cap = A.length + 1
    · refine ⟨⟨g, 0, none⟩, by simp [h], fun t u hu => ?_⟩
      have h0 : B = [] := List.eq_nil_of_length_eq_zero (by omega)
      rw [h0] at hu
      simp [cellsL_nil] at hu
    · refine ⟨⟨g, (A.length + 1) * 9, none⟩, by simp [h], fun t u hu => ?_⟩
      rw [Addr.add_lit]
      have := hrow ((A.length + 1) * 9 + t) u (by
        rw [cellsL_append, List.getElem?_append_right (by rw [cellsN_length]; omega), cellsN_length, cellsL_cons, List.getElem?_append_right (by rw [Lay.len]; show 9 ≤ _; omega)]
        rw [Lay.len, ← hu]; congr 1; show _ - 9 = _; omega)
      rw [Nat.zero_add] at this
      exact this
  have s1 : Hid ((cellsL B).length = B.length * 9) := cellsN_length B
  have s2 : Hid (∀ u ∈ cellsL B, u.oneCell' = true) := cellsL_one B
  have s3 : Hid (∀ t, t < (cellsL B).length → (w.drew.cell? ⟨g, 0 + A.length * 9 + t, none⟩).isSome = true ∧ w.drew.frozen? ⟨g, 0 + A.length * 9 + t, none⟩ = false) := by
    intro t ht
    rw [cellsN_length] at ht
    exact ⟨ho.someN (by omega), ho.frozen _⟩
  obtain ⟨W1, hW1⟩ : ∃ W1, W1 = w.drew.setCells g (0 + A.length * 9) (cellsL B) := ⟨_, rfl⟩
  have ho1 : OwnR W1 g cap (A ++ B) := by rw [hW1, Nat.zero_add]; exact ho.drew.spliceN B (by omega)
  have hg1 : w.grownBy W1 (some g) := by rw [hW1]; have := ngrown_setCells (g := g) (cellsL B) (0 + A.length * 9) w.drew; exact ⟨this.os, this.tape, this.output, this.size, this.block⟩
  have hclr : ∀ ty c, (Builtin.clear_ #[28] ty #[.slice (some ⟨g, (A.length + B.length) * 9, none⟩) 1 c]).run Tryz.prog W1 = .ok (.tuple #[]) (W1.setCells g ((A.length + B.length) * 9) nblank) := fun ty c =>
    nclear1 W1 ty g _ c (fun j hj => ho1.someN (by omega)) (fun j hj => ho1.frozen _)
  have FIN : Hid (OwnR (W1.setCells g ((A.length + B.length) * 9) nblank) g cap (A ++ B) ∧ w.grownBy (W1.setCells g ((A.length + B.length) * 9) nblank) (some g)) :=
    ⟨ho1.spareN nblank _ (by rw [List.length_append]; omega) (by simp [nblank]; omega), ngrown_trans hg1 (ngrown_setCells _ _ _)⟩
  have hW : Hid (W1 = w.drew.setCells g (0 + A.length * 9) (cellsL B)) := hW1
  have hic : A.length ≤ cap := by omega
  have hjc : A.length + 1 ≤ cap := by omega
  have hne : ¬ (cap = A.length + B.length) := by omega
  have hb1 : (0 : Int) ≤ (A.length : Int) + 1 := by omega
  have hb2 : (A.length : Int) ≤ (A.length : Int) + (B.length : Int) := by omega
  have hb3 : (0 : Int) ≤ (A.length : Int) + (B.length : Int) := by omega
  have hs1 : A.length + B.length + 1 - (A.length + B.length) = 1 := by omega
  clear hW1 ho1 hg1 hrow ho
  subst hn
  go_enter Tryz.func191, Tryz.ntmps191
  go_wp2_with fail
  go_region_law (refine step_append_room rfl (.tmp 22) (.tmp 25) 28 rfl 97 i0 9 Tryz.underlying28 hi0 hz1 g 0 A.length cap (by simp [Act.eval, Act.put]) AD B.length (cap - (A.length + 1)) (cellsL B) (by simp [Act.eval, Act.put]) s1.out hsrc.out s2.out (by omega) s3.out ?_; rw [← hW.out])
  go_wp2
  go_ret
  exact ⟨rfl, FIN.out⟩

theorem ncopy3 (w : World) (ty : TypeId) (b o dLen dCap : Nat) (a : Addr) (sLen sCap : Nat) (cs : List Value) (hn : cs.length = Nat.min sLen dLen * 9)
    (hsrc : ∀ j v, cs[j]? = some v → w.cell? (a.add j) = some v) (hc : ∀ j, j < cs.length → (w.cell? ⟨b, o + j, none⟩).isSome = true) (hf : ∀ j, j < cs.length → w.frozen? ⟨b, o + j, none⟩ = false) (h1 : ∀ v ∈ cs, v.oneCell' = true) :
    (Builtin.copy_ #[28, 28] ty #[.slice (some ⟨b, o, none⟩) dLen dCap, .slice (some a) sLen sCap]).run Tryz.prog w = .ok (goInt (Nat.min sLen dLen)) (w.setCells b o cs) := by
  have hl := run_loadCells_list (P := Tryz.prog) w a cs hsrc
  have hst := run_storeCells_cells (P := Tryz.prog) b o cs 0 w (by simpa using hc) (by simpa using hf) h1
  obtain ⟨i0, hi0, hz0, hz1, hz2⟩ := ninfo
  simp [Builtin.copy_, run_underlying Tryz.underlying28, Builtin.lenOf, Builtin.firstCells, sizeOf, typeInfo, hi0, hz1, ← hn, hl, hst]

set_option maxRecDepth 10000 in
set_option maxHeartbeats 1000000 in
/-- at the end -/
theorem ninsert_end (v : Value) (A : List Nd) (x : Nd) (B b : Nat) (w : World) (ho : OwnS w B v A) (hB : B ≤ w.heap.size) (hl : A.length ≤ 400) (h1 : OneR w b x) :
    Calls Tryz.prog 188 #[v, .int .i64 A.length, .slice (some ⟨b, 0, none⟩) 1 1] w fun e w' =>
      ∃ v', e = .returned v' ∧ OwnS w' B v' (A ++ [x]) ∧ w.grownBy w' v.ownBlock ∧ (v'.ownBlock = v.ownBlock ∨ v'.ownBlock = some w.heap.size) := by
  obtain ⟨i0, hi0, hz0, hz1, hz2⟩ := ninfo
  have hrow := ho.row
  have HR := hide hrow
  have H1 := hide h1.row
  have V : ∃ a c, v = .slice a A.length c ∧ A.length ≤ c := by
    rcases ho with ⟨rfl, rfl⟩ | ⟨g, cap, rfl, _, h⟩
    · exact ⟨none, 0, rfl, Nat.le_refl _⟩
    · exact ⟨_, cap, rfl, h.le⟩
  obtain ⟨a, c, rfl, hc⟩ := V
  clear ho hrow h1
  rcases Nat.lt_or_ge A.length c with hcl | hcl
  · have hne : ¬ c = A.length := by omega
    go_enter Tryz.func188, Tryz.ntmps188
    go_wp2_with (at_builtin; refine wpList_append_own_at _ rfl _ _ 28 rfl B 97 i0 _ 9 88 Tryz.underlying28 hi0 hz0 hz1 hz2 rfl (by decide) _ A.length (cellsL A) rfl (unhide HR) ⟨b, 0, none⟩ 1 1 (ncells x) rfl (by rfl) ?qc2 ((Lay.one x)) ?qc4 ?qc5 hB ?_)
    case qc2 =>
      intro j u hj
      rw [Addr.add_lit]
      exact unhide H1 j u hj
    case qc4 => simp only [maxLen]; omega
    case qc5 => omega
    intro v' w1 hown hgrow _ hloc
    go_wp2
    go_ret
    exact ⟨v', rfl, OwnS.of_row (by rw [List.length_append, cellsL_snoc]; exact hown), hgrow, hloc⟩
  · obtain rfl : c = A.length := by omega
    go_enter Tryz.func188, Tryz.ntmps188
    go_wp2_with (at_builtin; refine wpList_append_own_at _ rfl _ _ 28 rfl B 97 i0 _ 9 88 Tryz.underlying28 hi0 hz0 hz1 hz2 rfl (by decide) _ A.length (cellsL A) rfl (unhide HR) ⟨b, 0, none⟩ 1 1 (ncells x) rfl (by rfl) ?qc2 ((Lay.one x)) ?qc4 ?qc5 hB ?_)
    case qc2 =>
      intro j u hj
      rw [Addr.add_lit]
      exact unhide H1 j u hj
    case qc4 => simp only [maxLen]; omega
    case qc5 => omega
    intro v' w1 hown hgrow _ hloc
    go_wp2
    go_ret
    exact ⟨v', rfl, OwnS.of_row (by rw [List.length_append, cellsL_snoc]; exact hown), hgrow, hloc⟩

set_option maxRecDepth 10000 in
set_option maxHeartbeats 2000000 in
/-- there is room -/
theorem ninsert_shift (g cap : Nat) (A R : List Nd) (y x : Nd) (n b : Nat) (w : World) (ho : OwnR w g cap (A ++ y :: R)) (hn : n = A.length + R.length + 1) (hsm : n ≤ 400) (hroom : n + 1 ≤ cap) (h1 : OneR w b x) (hbg : b ≠ g) :
    Calls Tryz.prog 188 #[.slice (some ⟨g, 0, none⟩) n cap, .int .i64 A.length, .slice (some ⟨b, 0, none⟩) 1 1] w fun e w' =>
      e = .returned (.slice (some ⟨g, 0, none⟩) (n + 1) cap) ∧ OwnR w' g cap (A ++ x :: y :: R) ∧ w.grownBy w' (some g) := by
  have hcl := ho.capLe
  simp only [maxLen] at hcl
  have hrow := ho.row
  have hshg : w.shape? g = some (97, cap * 9) := by
    obtain ⟨rest, q1, q2, _⟩ := ho
    rw [List.length_append, List.length_cons] at q2
    simp [World.shape?, q1, cellsN_length]
    exact ⟨rfl, q2⟩
  have hshb : w.shape? b = some (97, 9) := by unfold OneR at h1; simp [World.shape?, h1]; exact ⟨rfl, rfl⟩
  have hfb : ∀ j, w.frozen? ⟨b, j, none⟩ = false := fun j => by unfold OneR at h1; simp [World.frozen?, h1]
  have hov : ∀ lb cb, (callFunc 210 #[.slice (some ⟨b, 0, none⟩) 1 1, .slice (some ⟨g, (A.length + 1) * 9, none⟩) lb cb]).run Tryz.prog w = .ok (.value (.bool false)) w := fun lb cb => by
    rw [run_callFunc_extern Tryz.func210 (by kernel_rfl) (by kernel_rfl) (by kernel_rfl) (e := Extern.SlicesOverlaps.overlaps #[28, 28] #[4]) (by kernel_rfl),
      Lib.run_overlaps_apart w 28 4 97 Tryz.underlying28 9 Tryz.sizeOf97 ⟨b, 0, none⟩ ⟨g, (A.length + 1) * 9, none⟩ 1 1 lb cb hbg 97 97 9 (cap * 9) hshb hshg (by omega) (hfb 0) (hfb 9)]
    rfl
  obtain ⟨W1, hW1⟩ : ∃ W1, W1 = w.drew.setCells g ((A.length + 1) * 9) (cellsL (y :: R)) := ⟨_, rfl⟩
  have ho1 : OwnR W1 g cap (A ++ y :: y :: R) := by
    have h : OwnR w.drew g cap ((A ++ [y]) ++ R) := by rw [List.append_assoc]; exact ho
    have := h.spliceN (y :: R) (by simp; omega)
    rw [hW1]
    simpa using this
  have hg1 : w.grownBy W1 (some g) := by rw [hW1]; have := ngrown_setCells (g := g) (cellsL (y :: R)) ((A.length + 1) * 9) w.drew; exact ⟨this.os, this.tape, this.output, this.size, this.block⟩
  have hcp1 : ∀ ty dc sc, (Builtin.copy_ #[28, 28] ty #[.slice (some ⟨g, (A.length + 1) * 9, none⟩) (n - A.length) dc, .slice (some ⟨g, A.length * 9, none⟩) (n + 1 - A.length) sc]).run Tryz.prog w.drew = .ok (goInt (Nat.min (n + 1 - A.length) (n - A.length))) W1 := fun ty dc sc => by
    rw [hW1]
    exact ncopy3 w.drew ty g _ _ dc ⟨g, A.length * 9, none⟩ _ sc (cellsL (y :: R)) (by rw [cellsN_length]; simp only [Nat.min_def, List.length_cons]; split <;> omega)
      (fun j v hj => by
        rw [Addr.add_lit]
        have := hrow (A.length * 9 + j) v (by rw [cellsL_append, List.getElem?_append_right (by rw [cellsN_length]; omega), cellsN_length, Nat.add_sub_cancel_left]; exact hj)
        rw [Nat.zero_add] at this
        exact this)
      (fun j hj => by rw [cellsN_length] at hj; exact ho.someN (by simp at hj; omega)) (fun j _ => ho.frozen _) (cellsL_one _)
  have hcp2 : ∀ ty dc, (Builtin.copy_ #[28, 28] ty #[.slice (some ⟨g, A.length * 9, none⟩) (n + 1 - A.length) dc, .slice (some ⟨b, 0, none⟩) 1 1]).run Tryz.prog W1 = .ok (goInt (Nat.min 1 (n + 1 - A.length))) (W1.setCells g (A.length * 9) (ncells x)) := fun ty dc =>
    ncopy3 W1 ty g _ _ dc ⟨b, 0, none⟩ 1 1 (ncells x) (by simp only [Nat.min_def, ncells, List.length_cons, List.length_nil]; split <;> omega)
      (fun j v hj => by
        rw [Addr.add_lit]
        have hb2 : W1.heap[b]? = w.heap[b]? := hg1.block b (by unfold OneR at h1; exact (Array.getElem?_eq_some_iff.1 h1).1) (fun e => hbg (Option.some.inj e))
        have h2 : OneR W1 b x := hb2.trans h1
        exact h2.row j v hj)
      (fun j hj => ho1.someN (by simp [ncells] at hj; omega)) (fun j _ => ho1.frozen _) ((Lay.one x))
  have FIN : Hid (OwnR (W1.setCells g (A.length * 9) (ncells x)) g cap (A ++ x :: y :: R) ∧ w.grownBy (W1.setCells g (A.length * 9) (ncells x)) (some g)) :=
    ⟨ho1.swapN x, ngrown_trans hg1 (ngrown_setCells _ _ _)⟩
  have hin : A.length < n := by omega
  have hini : (A.length : Int) < (n : Int) := by omega
  have hw1 : IntKind.i64.wrap ((A.length : Int) + 1) = (A.length : Int) + 1 := by rw [IntKind.wrap_i64]; omega
  have hb1 : (0 : Int) ≤ (A.length : Int) + 1 := by omega
  have hb2 : ¬ (cap = A.length + 1) := by omega
  have hb3 : (A.length : Int) ≤ (n : Int) + 1 := by omega
  have hb4 : ¬ (cap = A.length) := by omega
  have hb5 : (A.length : Int) + 1 ≤ (n : Int) + 1 := by omega
  have hb6 : ¬ ((cap : Int) < (n : Int) + 1) := by omega
  have hz2 : ¬ ((A.length : Int) = (n : Int)) := by omega
  have htn : ((A.length : Int) + 1).toNat = A.length + 1 := by omega
  clear hW1 ho1 hg1 hrow hshg hshb hfb ho h1 hn
  go_enter Tryz.func188, Tryz.ntmps188
  go_wp2_with (simp only [hov])
  go_region_law (refine step_copy_runN rfl (.tmp 73) (.tmp 76) 28 28 rfl (.slice (some ⟨g, (A.length + 1) * 9, none⟩) (n - A.length) (cap - (A.length + 1))) (.slice (some ⟨g, A.length * 9, none⟩) (n + 1 - A.length) (cap - A.length)) (by simp [Act.eval, Act.put]) (by simp [Act.eval, Act.put]) (hcp1 _ _ _) ?_)
  go_wp2_with (at_builtin; refine wpList_copy_runN _ rfl _ _ 28 28 rfl _ _ rfl rfl (hcp2 _ _) ?_)
  go_ret
  exact ⟨rfl, FIN.out⟩

theorem nzeros (k : Nat) : (Builtin.zeroCells (Value.agg #[.string ⟨#[]⟩, .string ⟨#[]⟩, .int .i64 0, .int .i64 0, .int .i64 0, .int .i64 0, .int .i64 0, .int .i64 0, .int .i64 0]).cells k).size = k * 9 := by
  simp [Builtin.zeroCells, Value.cells]

set_option maxRecDepth 10000 in
set_option maxHeartbeats 2000000 in
/-- there is no room -/
theorem ninsert_grow (g cap : Nat) (A R : List Nd) (y x : Nd) (n b : Nat) (w : World) (ho : OwnR w g cap (A ++ y :: R)) (hn : n = A.length + R.length + 1) (hsm : n ≤ 400) (hroom : cap < n + 1) (h1 : OneR w b x) :
    Calls Tryz.prog 188 #[.slice (some ⟨g, 0, none⟩) n cap, .int .i64 A.length, .slice (some ⟨b, 0, none⟩) 1 1] w fun e w' =>
      ∃ cap', e = .returned (.slice (some ⟨w.heap.size, 0, none⟩) (n + 1) cap') ∧ OwnR w' w.heap.size cap' (A ++ x :: y :: R) ∧ Below w.heap.size w w' := by
  have hcap : cap = n := by have := ho.le; simp at this; omega
  obtain ⟨i0, hi0, hz0, hz1, hz2⟩ := ninfo
  have hrow := ho.row
  have hgw := ho.lt
  have hbw : b < w.heap.size := by unfold OneR at h1; exact (Array.getElem?_eq_some_iff.1 h1).1
  have hold : (Builtin.firstCells i0.size A.length (.slice (some ⟨g, 0, none⟩) A.length cap)).run Tryz.prog w.drew = .ok (cellsL A).toArray w.drew := by
    rw [hz1]
    exact run_firstCells_some w.drew 9 A.length ⟨g, 0, none⟩ A.length cap (cellsL A) (cellsN_length A) (fun j v hj => by
      rw [Addr.add_lit]
      exact hrow j v (by rw [cellsL_append, List.getElem?_append_left (List.getElem?_eq_some_iff.1 hj).1]; exact hj))
  obtain ⟨G, hG⟩ : ∃ G, G = grownCap w (n + 1) cap 97 := ⟨_, rfl⟩
  have hGn : n + 1 ≤ G := by rw [hG]; exact grownCap_ge w _ _ _
  have hGm : G ≤ maxLen := by rw [hG]; exact grownCap_le_maxLen w (n + 1) cap _ (by unfold maxLen; omega)
  have hG63 : G ≤ 9223372036854775807 := by have := hGm; unfold maxLen at this; omega
  obtain ⟨ROW, hROW⟩ : ∃ ROW : Array Value, ROW = (cellsL A).toArray ++ Builtin.zeroCells (Value.agg #[.string ⟨#[]⟩, .string ⟨#[]⟩, .int .i64 0, .int .i64 0, .int .i64 0, .int .i64 0, .int .i64 0, .int .i64 0, .int .i64 0]).cells (n + 1 - A.length) ++ Builtin.zeroCells (Value.agg #[.string ⟨#[]⟩, .string ⟨#[]⟩, .int .i64 0, .int .i64 0, .int .i64 0, .int .i64 0, .int .i64 0, .int .i64 0, .int .i64 0]).cells (G - (n + 1)) := ⟨_, rfl⟩
  obtain ⟨W1, hW1⟩ : ∃ W1, W1 = w.drew.alloc (.cells ROW 97) := ⟨_, rfl⟩
  have hik : A.length + (n + 1 - A.length) = n + 1 := by omega
  have hrz : ∀ ty, (Builtin.append_ #[28, 3] ty #[.slice (some ⟨g, 0, none⟩) A.length cap, .int .i64 ((n : Int) + 1 - (A.length : Int))]).run Tryz.prog w =
      .ok (.slice (some ⟨w.heap.size, 0, none⟩) (n + 1) G) W1 := fun ty => by
    have h := Lib.run_append_grow_zeros w 28 3 ty 97 i0 _ .i64 .i64 Tryz.underlying28 Tryz.underlying3 hi0 hz0 (some ⟨g, 0, none⟩) A.length cap (cellsL A) hold (n + 1 - A.length) (by omega) (by omega) (by omega) (by omega) (by rw [hz2]; omega) (by rw [hz2, hik]; exact growslice_fits hroom (by omega))
    rw [hik, ← hG, ← hROW, ← hW1] at h
    rw [show (n : Int) + 1 - (A.length : Int) = ((n + 1 - A.length : Nat) : Int) by omega]
    exact h
  have ho1 : OwnR W1 w.heap.size G A := by
    refine ⟨(Builtin.zeroCells (Value.agg #[.string ⟨#[]⟩, .string ⟨#[]⟩, .int .i64 0, .int .i64 0, .int .i64 0, .int .i64 0, .int .i64 0, .int .i64 0, .int .i64 0]).cells (n + 1 - A.length) ++ Builtin.zeroCells (Value.agg #[.string ⟨#[]⟩, .string ⟨#[]⟩, .int .i64 0, .int .i64 0, .int .i64 0, .int .i64 0, .int .i64 0, .int .i64 0, .int .i64 0]).cells (G - (n + 1))).toList, ?_, ?_, by omega, hGm⟩
    · rw [hW1, hROW]
      have := heap_alloc_new w.drew (.cells ((cellsL A).toArray ++ Builtin.zeroCells (Value.agg #[.string ⟨#[]⟩, .string ⟨#[]⟩, .int .i64 0, .int .i64 0, .int .i64 0, .int .i64 0, .int .i64 0, .int .i64 0, .int .i64 0]).cells (n + 1 - A.length) ++ Builtin.zeroCells (Value.agg #[.string ⟨#[]⟩, .string ⟨#[]⟩, .int .i64 0, .int .i64 0, .int .i64 0, .int .i64 0, .int .i64 0, .int .i64 0, .int .i64 0]).cells (G - (n + 1))) 97)
      refine Eq.trans this ?_
      congr 2
      apply Array.toList_inj.1
      simp
    · simp only [show Lay.k Nd = 9 from rfl, Array.length_toList, Array.size_append, nzeros]; omega
  have hB1 : Below w.heap.size w W1 := by rw [hW1]; exact ((Below.refl _ w).drew).alloc (Nat.le_refl _) _
  obtain ⟨W2, hW2⟩ : ∃ W2, W2 = W1.setCells w.heap.size (A.length * 9) (ncells x) := ⟨_, rfl⟩
  have ho2 : OwnR W2 w.heap.size G (A ++ [x]) := by
    have h : OwnR W1 w.heap.size G (A ++ []) := by rw [List.append_nil]; exact ho1
    have := h.spliceN [x] (by simp; omega)
    rw [hW2]
    rw [cellsL_cons, cellsL_nil, List.append_nil] at this
    exact this
  have hg2 : W1.grownBy W2 (some w.heap.size) := by rw [hW2]; exact ngrown_setCells _ _ _
  have hB2 : Below w.heap.size w W2 := hB1.grown hg2 hB1.size (fun k e => by cases e; exact Nat.le_refl _)
  have hcpA : ∀ ty dc, (Builtin.copy_ #[28, 28] ty #[.slice (some ⟨w.heap.size, A.length * 9, none⟩) (n + 1 - A.length) dc, .slice (some ⟨b, 0, none⟩) 1 1]).run Tryz.prog W1 = .ok (goInt (Nat.min 1 (n + 1 - A.length))) W2 := fun ty dc => by
    rw [hW2]
    exact ncopy3 W1 ty w.heap.size _ _ dc ⟨b, 0, none⟩ 1 1 (ncells x) (by simp only [Nat.min_def, ncells, List.length_cons, List.length_nil]; split <;> omega)
      (fun j v hj => by rw [Addr.add_lit]; exact (show OneR W1 b x from (hB1.block b hbw).trans h1).row j v hj)
      (fun j hj => ho1.someN (by simp [ncells] at hj; omega)) (fun j _ => ho1.frozen _) ((Lay.one x))
  obtain ⟨W3, hW3⟩ : ∃ W3, W3 = W2.drew.setCells w.heap.size ((A.length + 1) * 9) (cellsL (y :: R)) := ⟨_, rfl⟩
  have hcpB : ∀ ty dc sc, (Builtin.copy_ #[28, 28] ty #[.slice (some ⟨w.heap.size, (A.length + 1) * 9, none⟩) (n - A.length) dc, .slice (some ⟨g, A.length * 9, none⟩) (n - A.length) sc]).run Tryz.prog W2.drew = .ok (goInt (Nat.min (n - A.length) (n - A.length))) W3 := fun ty dc sc => by
    rw [hW3]
    exact ncopy3 W2.drew ty w.heap.size _ _ dc ⟨g, A.length * 9, none⟩ _ sc (cellsL (y :: R)) (by rw [cellsN_length]; simp only [Nat.min_self, List.length_cons]; omega)
      (fun j v hj => by
        rw [Addr.add_lit]
        have := hrow (A.length * 9 + j) v (by rw [cellsL_append, List.getElem?_append_right (by rw [cellsN_length]; omega), cellsN_length, Nat.add_sub_cancel_left]; exact hj)
        rw [Nat.zero_add] at this
        exact (hB2.cell (p := ⟨g, A.length * 9 + j, none⟩) hgw).trans this)
      (fun j hj => by rw [cellsN_length] at hj; exact ho2.drew.someN (by simp at hj; omega)) (fun j _ => ho2.drew.frozen _) (cellsL_one _)
  have FIN : Hid (OwnR W3 w.heap.size G (A ++ x :: y :: R) ∧ Below w.heap.size w W3) := by
    refine ⟨?_, ?_⟩
    · have h : OwnR W2.drew w.heap.size G ((A ++ [x]) ++ []) := by rw [List.append_nil]; exact ho2
      have := h.spliceN (y :: R) (by simp; omega)
      rw [hW3]
      simpa using this
    · rw [hW3]; exact hB2.drew.grown (ngrown_setCells _ _ _) hB2.size (fun k e => by cases e; exact Nat.le_refl _)
  have hin : A.length < n := by omega
  have hini : (A.length : Int) < (n : Int) := by omega
  have hw1 : IntKind.i64.wrap ((A.length : Int) + 1) = (A.length : Int) + 1 := by rw [IntKind.wrap_i64]; omega
  have hb1 : (0 : Int) ≤ (A.length : Int) + 1 := by omega
  have hb2 : ¬ (G = A.length + 1) := by omega
  have hb3 : (A.length : Int) ≤ (n : Int) + 1 := by omega
  have hb4 : ¬ (n = A.length) := by omega
  have hb5 : (A.length : Int) + 1 ≤ (n : Int) + 1 := by omega
  have hb6 : ¬ (G = A.length) := by omega
  have hb7 : (A.length : Int) ≤ (n : Int) := by omega
  have hz3 : ¬ ((A.length : Int) = (n : Int)) := by omega
  have htn : ((A.length : Int) + 1).toNat = A.length + 1 := by omega
  subst hcap
  clear hn hROW hW1 hW2 hW3 hG hrow ho h1 ho1 ho2 hB1 hB2 hg2 hold hik
  go_enter Tryz.func188, Tryz.ntmps188
  go_wp2_with (first
    | (at_builtin; refine Lib.wpList_append_run _ rfl _ _ _ _ rfl _ _ rfl rfl _ _ (hrz _) ?_)
    | (at_builtin; refine wpList_copy_runN _ rfl _ _ 28 28 rfl _ _ rfl rfl (hcpA _ _) ?_))
  go_region_law (refine step_copy_runN rfl (.tmp 50) (.tmp 53) 28 28 rfl (.slice (some ⟨w.heap.size, (A.length + 1) * 9, none⟩) (cap - A.length) (G - (A.length + 1))) (.slice (some ⟨g, A.length * 9, none⟩) (cap - A.length) (cap - A.length)) (by simp [Act.eval, Act.put]) (by simp [Act.eval, Act.put]) (hcpB _ _ _) ?_)
  go_wp2
  go_ret
  exact ⟨G, rfl, FIN.out⟩

theorem ninsert_any (v : Value) (A R : List Nd) (x : Nd) (q : Nat) (w : World) (ho : OwnS w 0 v (A ++ R)) (hl : (A ++ R).length ≤ 400) (h1 : OneR w q x) (hq : v.ownBlock ≠ some q) :
    Calls Tryz.prog 188 #[v, .int .i64 A.length, .slice (some ⟨q, 0, none⟩) 1 1] w fun e w' =>
      ∃ v', e = .returned v' ∧ OwnS w' 0 v' (A ++ x :: R) ∧ w.grownBy w' v.ownBlock ∧ (v'.ownBlock = v.ownBlock ∨ ∃ k, w.heap.size ≤ k ∧ v'.ownBlock = some k) := by
  cases R with
  | nil =>
    rw [List.append_nil] at ho hl
    refine (ninsert_end v A x 0 q w ho (Nat.zero_le _) hl h1).mono ?_
    rintro e w' ⟨v', rfl, h2, h3, h4⟩
    refine ⟨v', rfl, h2, h3, ?_⟩
    rcases h4 with h | h
    · exact .inl h
    · exact .inr ⟨_, Nat.le_refl _, h⟩
  | cons y R =>
    rcases ho with ⟨_, h⟩ | ⟨g, cap, rfl, _, ho⟩
    · simp at h
    · have hn : (A ++ y :: R).length = A.length + R.length + 1 := by simp; omega
      by_cases hc : (A ++ y :: R).length + 1 ≤ cap
      · refine (ninsert_shift g cap A R y x _ q w ho hn hl hc h1 (fun e => hq (by rw [e]; rfl))).mono ?_
        rintro e w' ⟨rfl, h2, h3⟩
        exact ⟨_, rfl, .inr ⟨g, cap, by simp; omega, Nat.zero_le _, h2⟩, h3, .inl rfl⟩
      · refine (ninsert_grow g cap A R y x _ q w ho hn hl (by omega) h1).mono ?_
        rintro e w' ⟨cap', rfl, h2, h3⟩
        exact ⟨_, rfl, .inr ⟨w.heap.size, cap', by simp; omega, Nat.zero_le _, h2⟩, ⟨h3.os, h3.tape, h3.output, h3.size, fun k hk _ => h3.block k hk⟩, .inr ⟨_, Nat.le_refl _, rfl⟩⟩

end Go.Proofs.YtaoflcmeiaffjaaGreatDoor

namespace Go.Proofs.YtaoflcmeiaffjaaGreatDoor
open Go.RowKit

theorem iinfo0 : (Tryz.prog.info? 3).map (fun i => (i.zero, i.size, i.bytes)) = some (some (.int .i64 0), 1, 8) := by kernel_rfl
theorem iinfo : ∃ i0, Tryz.prog.info? 3 = some i0 ∧ i0.zero = some (.int .i64 0) ∧ i0.size = 1 ∧ i0.bytes = 8 := by
  obtain ⟨i0, h, e⟩ := Option.map_eq_some_iff.1 iinfo0
  simp only [Prod.mk.injEq] at e
  exact ⟨i0, h, e⟩

def iblank : List Value := [.int .i64 0]
set_option maxRecDepth 20000 in
theorem iclear1 (w : World) (ty : TypeId) (b o c : Nat) (hc : ∀ j, j < 1 → (w.cell? ⟨b, o + j, none⟩).isSome = true) (hf : ∀ j, j < 1 → w.frozen? ⟨b, o + j, none⟩ = false) :
    (Builtin.clear_ #[29] ty #[.slice (some ⟨b, o, none⟩) 1 c]).run Tryz.prog w = .ok (.tuple #[]) (w.setCells b o iblank) := by
  have hzc : (Builtin.zeroCells (Value.int .i64 0).cells 1).toList = iblank := by kernel_rfl
  have hst := run_storeCells_cells (P := Tryz.prog) b o iblank 0 w (fun j hj => hc j (by simpa [iblank] using hj)) (fun j hj => hf j (by simpa [iblank] using hj)) (by simp [iblank, Value.oneCell'])
  simp only [Nat.add_zero] at hst
  simp [Builtin.clear_, run_underlying Tryz.underlying29, hzc, hst]

set_option maxRecDepth 20000 in
set_option maxHeartbeats 1000000 in
theorem idelete_any (g cap : Nat) (A B : List Int) (f : Int) (n : Nat) (w : World) (ho : OwnR w g cap (A ++ f :: B)) (hn : n = A.length + B.length + 1) (hsm : n ≤ 2147483647) :
    Calls Tryz.prog 184 #[.slice (some ⟨g, 0, none⟩) n cap, .int .i64 A.length, .int .i64 (A.length + 1 : Nat)] w fun e w' =>
      e = .returned (.slice (some ⟨g, 0, none⟩) (A.length + B.length) cap) ∧ OwnR w' g cap (A ++ B) ∧ w.grownBy w' (some g) := by
  obtain ⟨i0, hi0, hz0, hz1, hz2⟩ := iinfo
  have hle := ho.le
  have hcl := ho.capLe
  simp only [maxLen] at hcl
  rw [List.length_append, List.length_cons] at hle
  have hrow := ho.row
  obtain ⟨AD, hAD, hsrc⟩ : ∃ AD : Addr, (if cap = A.length + 1 then some (⟨g, 0, none⟩ : Addr) else some ⟨g, (A.length + 1), none⟩) = some AD ∧ Hid (∀ t u, (cellsL B)[t]? = some u → w.drew.cell? (AD.add t) = some u) := by
    by_cases h : cap = A.length + 1
    · refine ⟨⟨g, 0, none⟩, by simp [h], fun t u hu => ?_⟩
      have h0 : B = [] := List.eq_nil_of_length_eq_zero (by omega)
      rw [h0] at hu
      simp [cellsL_nil] at hu
    · refine ⟨⟨g, (A.length + 1), none⟩, by simp [h], fun t u hu => ?_⟩
      rw [Addr.add_lit]
      have := hrow ((A.length + 1) + t) u (by
        rw [cellsL_append, List.getElem?_append_right (by rw [cellsI_length]; omega), cellsI_length, cellsL_cons, List.getElem?_append_right (by rw [Lay.len]; show 1 ≤ _; omega)]
        rw [Lay.len, ← hu]; congr 1; show _ - 1 = _; omega)
      rw [Nat.zero_add] at this
      exact this
  have s1 : Hid ((cellsL B).length = B.length * 1) := (cellsI_length B).trans (Nat.mul_one _).symm
  have s2 : Hid (∀ u ∈ cellsL B, u.oneCell' = true) := cellsL_one B
  have s3 : Hid (∀ t, t < (cellsL B).length → (w.drew.cell? ⟨g, 0 + A.length * 1 + t, none⟩).isSome = true ∧ w.drew.frozen? ⟨g, 0 + A.length * 1 + t, none⟩ = false) := by
    intro t ht
    rw [cellsI_length] at ht
    exact ⟨ho.someI (by omega), ho.frozen _⟩
  obtain ⟨W1, hW1⟩ : ∃ W1, W1 = w.drew.setCells g (0 + A.length * 1) (cellsL B) := ⟨_, rfl⟩
  have ho1 : OwnR W1 g cap (A ++ B) := by rw [hW1, Nat.zero_add, Nat.mul_one]; exact ho.drew.spliceI B (by omega)
  have hg1 : w.grownBy W1 (some g) := by rw [hW1]; have := ngrown_setCells (g := g) (cellsL B) (0 + A.length * 1) w.drew; exact ⟨this.os, this.tape, this.output, this.size, this.block⟩
  have hclr : ∀ ty c, (Builtin.clear_ #[29] ty #[.slice (some ⟨g, (A.length + B.length), none⟩) 1 c]).run Tryz.prog W1 = .ok (.tuple #[]) (W1.setCells g ((A.length + B.length)) iblank) := fun ty c =>
    iclear1 W1 ty g _ c (fun j hj => ho1.someI (by omega)) (fun j hj => ho1.frozen _)
  have FIN : Hid (OwnR (W1.setCells g ((A.length + B.length)) iblank) g cap (A ++ B) ∧ w.grownBy (W1.setCells g ((A.length + B.length)) iblank) (some g)) :=
    ⟨ho1.spareI iblank _ (by rw [List.length_append]; omega) (by simp [iblank]; omega), ngrown_trans hg1 (ngrown_setCells _ _ _)⟩
  have hW : Hid (W1 = w.drew.setCells g (0 + A.length * 1) (cellsL B)) := hW1
  have hic : A.length ≤ cap := by omega
  have hjc : A.length + 1 ≤ cap := by omega
  have hne : ¬ (cap = A.length + B.length) := by omega
  have hb1 : (0 : Int) ≤ (A.length : Int) + 1 := by omega
  have hb2 : (A.length : Int) ≤ (A.length : Int) + (B.length : Int) := by omega
  have hb3 : (0 : Int) ≤ (A.length : Int) + (B.length : Int) := by omega
  have hs1 : A.length + B.length + 1 - (A.length + B.length) = 1 := by omega
  clear hW1 ho1 hg1 hrow ho
  subst hn
  go_enter Tryz.func184, Tryz.ntmps184
  go_wp2_with fail
  go_region_law (refine step_append_room rfl (.tmp 22) (.tmp 25) 29 rfl 3 i0 1 Tryz.underlying29 hi0 hz1 g 0 A.length cap (by simp [Act.eval, Act.put]) AD B.length (cap - (A.length + 1)) (cellsL B) (by simp [Act.eval, Act.put]) s1.out hsrc.out s2.out (by omega) s3.out ?_; rw [← hW.out])
  go_wp2
  go_ret
  exact ⟨rfl, FIN.out⟩

theorem icopy3 (w : World) (ty : TypeId) (b o dLen dCap : Nat) (a : Addr) (sLen sCap : Nat) (cs : List Value) (hn : cs.length = Nat.min sLen dLen)
    (hsrc : ∀ j v, cs[j]? = some v → w.cell? (a.add j) = some v) (hc : ∀ j, j < cs.length → (w.cell? ⟨b, o + j, none⟩).isSome = true) (hf : ∀ j, j < cs.length → w.frozen? ⟨b, o + j, none⟩ = false) (h1 : ∀ v ∈ cs, v.oneCell' = true) :
    (Builtin.copy_ #[29, 29] ty #[.slice (some ⟨b, o, none⟩) dLen dCap, .slice (some a) sLen sCap]).run Tryz.prog w = .ok (goInt (Nat.min sLen dLen)) (w.setCells b o cs) := by
  have hl := run_loadCells_list (P := Tryz.prog) w a cs hsrc
  have hst := run_storeCells_cells (P := Tryz.prog) b o cs 0 w (by simpa using hc) (by simpa using hf) h1
  obtain ⟨i0, hi0, hz0, hz1, hz2⟩ := iinfo
  simp [Builtin.copy_, run_underlying Tryz.underlying29, Builtin.lenOf, Builtin.firstCells, sizeOf, typeInfo, hi0, hz1, ← hn, hl, hst]

set_option maxRecDepth 10000 in
set_option maxHeartbeats 1000000 in
/-- at the end -/
theorem iinsert_end (v : Value) (A : List Int) (x : Int) (B b : Nat) (w : World) (ho : OwnS w B v A) (hB : B ≤ w.heap.size) (hl : A.length ≤ 2147483647) (h1 : OneR w b x) :
    Calls Tryz.prog 183 #[v, .int .i64 A.length, .slice (some ⟨b, 0, none⟩) 1 1] w fun e w' =>
      ∃ v', e = .returned v' ∧ OwnS w' B v' (A ++ [x]) ∧ w.grownBy w' v.ownBlock ∧ (v'.ownBlock = v.ownBlock ∨ v'.ownBlock = some w.heap.size) := by
  obtain ⟨i0, hi0, hz0, hz1, hz2⟩ := iinfo
  have hrow := ho.row
  have HR := hide hrow
  have H1 := hide h1.row
  have V : ∃ a c, v = .slice a A.length c ∧ A.length ≤ c := by
    rcases ho with ⟨rfl, rfl⟩ | ⟨g, cap, rfl, _, h⟩
    · exact ⟨none, 0, rfl, Nat.le_refl _⟩
    · exact ⟨_, cap, rfl, h.le⟩
  obtain ⟨a, c, rfl, hc⟩ := V
  clear ho hrow h1
  rcases Nat.lt_or_ge A.length c with hcl | hcl
  · have hne : ¬ c = A.length := by omega
    go_enter Tryz.func183, Tryz.ntmps183
    go_wp2_with (at_builtin; refine wpList_append_own_at _ rfl _ _ 29 rfl B 3 i0 _ 1 8 Tryz.underlying29 hi0 hz0 hz1 hz2 rfl (by decide) _ A.length (cellsL A) rfl (unhide HR) ⟨b, 0, none⟩ 1 1 [Value.int .i64 x] rfl (by rfl) ?qc2 ((Lay.one x)) ?qc4 ?qc5 hB ?_)
    case qc2 =>
      intro j u hj
      rw [Addr.add_lit]
      exact unhide H1 j u hj
    case qc4 => simp only [maxLen]; omega
    case qc5 => omega
    intro v' w1 hown hgrow _ hloc
    go_wp2
    go_ret
    exact ⟨v', rfl, OwnS.of_row (by rw [List.length_append, cellsL_snoc]; exact hown), hgrow, hloc⟩
  · obtain rfl : c = A.length := by omega
    go_enter Tryz.func183, Tryz.ntmps183
    go_wp2_with (at_builtin; refine wpList_append_own_at _ rfl _ _ 29 rfl B 3 i0 _ 1 8 Tryz.underlying29 hi0 hz0 hz1 hz2 rfl (by decide) _ A.length (cellsL A) rfl (unhide HR) ⟨b, 0, none⟩ 1 1 [Value.int .i64 x] rfl (by rfl) ?qc2 ((Lay.one x)) ?qc4 ?qc5 hB ?_)
    case qc2 =>
      intro j u hj
      rw [Addr.add_lit]
      exact unhide H1 j u hj
    case qc4 => simp only [maxLen]; omega
    case qc5 => omega
    intro v' w1 hown hgrow _ hloc
    go_wp2
    go_ret
    exact ⟨v', rfl, OwnS.of_row (by rw [List.length_append, cellsL_snoc]; exact hown), hgrow, hloc⟩

set_option maxRecDepth 10000 in
set_option maxHeartbeats 2000000 in
/-- there is room -/
theorem iinsert_shift (g cap : Nat) (A R : List Int) (y x : Int) (n b : Nat) (w : World) (ho : OwnR w g cap (A ++ y :: R)) (hn : n = A.length + R.length + 1) (hsm : n ≤ 2147483647) (hroom : n + 1 ≤ cap) (h1 : OneR w b x) (hbg : b ≠ g) :
    Calls Tryz.prog 183 #[.slice (some ⟨g, 0, none⟩) n cap, .int .i64 A.length, .slice (some ⟨b, 0, none⟩) 1 1] w fun e w' =>
      e = .returned (.slice (some ⟨g, 0, none⟩) (n + 1) cap) ∧ OwnR w' g cap (A ++ x :: y :: R) ∧ w.grownBy w' (some g) := by
  have hcl := ho.capLe
  simp only [maxLen] at hcl
  have hrow := ho.row
  have hshg : w.shape? g = some (3, cap) := by
    obtain ⟨rest, q1, q2, _⟩ := ho
    rw [List.length_append, List.length_cons, show Lay.k Int = 1 from rfl, Nat.mul_one, Nat.mul_one] at q2
    simp [World.shape?, q1, cellsI_length]
    exact ⟨rfl, q2⟩
  have hshb : w.shape? b = some (3, 1) := by unfold OneR at h1; simp [World.shape?, h1]; exact ⟨rfl, rfl⟩
  have hfb : ∀ j, w.frozen? ⟨b, j, none⟩ = false := fun j => by unfold OneR at h1; simp [World.frozen?, h1]
  have hov : ∀ lb cb, (callFunc 205 #[.slice (some ⟨b, 0, none⟩) 1 1, .slice (some ⟨g, (A.length + 1), none⟩) lb cb]).run Tryz.prog w = .ok (.value (.bool false)) w := fun lb cb => by
    rw [run_callFunc_extern Tryz.func205 (by kernel_rfl) (by kernel_rfl) (by kernel_rfl) (e := Extern.SlicesOverlaps.overlaps #[29, 29] #[4]) (by kernel_rfl),
      Lib.run_overlaps_apart w 29 4 3 Tryz.underlying29 1 Tryz.sizeOf3 ⟨b, 0, none⟩ ⟨g, (A.length + 1), none⟩ 1 1 lb cb hbg 3 3 1 cap hshb hshg (by omega) (hfb 0) (hfb 1)]
    rfl
  obtain ⟨W1, hW1⟩ : ∃ W1, W1 = w.drew.setCells g ((A.length + 1)) (cellsL (y :: R)) := ⟨_, rfl⟩
  have ho1 : OwnR W1 g cap (A ++ y :: y :: R) := by
    have h : OwnR w.drew g cap ((A ++ [y]) ++ R) := by rw [List.append_assoc]; exact ho
    have := h.spliceI (y :: R) (by simp; omega)
    rw [hW1]
    simpa using this
  have hg1 : w.grownBy W1 (some g) := by rw [hW1]; have := ngrown_setCells (g := g) (cellsL (y :: R)) ((A.length + 1)) w.drew; exact ⟨this.os, this.tape, this.output, this.size, this.block⟩
  have hcp1 : ∀ ty dc sc, (Builtin.copy_ #[29, 29] ty #[.slice (some ⟨g, (A.length + 1), none⟩) (n - A.length) dc, .slice (some ⟨g, A.length, none⟩) (n + 1 - A.length) sc]).run Tryz.prog w.drew = .ok (goInt (Nat.min (n + 1 - A.length) (n - A.length))) W1 := fun ty dc sc => by
    rw [hW1]
    exact icopy3 w.drew ty g _ _ dc ⟨g, A.length, none⟩ _ sc (cellsL (y :: R)) (by rw [cellsI_length]; simp only [Nat.min_def, List.length_cons]; split <;> omega)
      (fun j v hj => by
        rw [Addr.add_lit]
        have := hrow (A.length + j) v (by rw [cellsL_append, List.getElem?_append_right (by rw [cellsI_length]; omega), cellsI_length, Nat.add_sub_cancel_left]; exact hj)
        rw [Nat.zero_add] at this
        exact this)
      (fun j hj => by rw [cellsI_length] at hj; exact ho.someI (by simp at hj; omega)) (fun j _ => ho.frozen _) (cellsL_one _)
  have hcp2 : ∀ ty dc, (Builtin.copy_ #[29, 29] ty #[.slice (some ⟨g, A.length, none⟩) (n + 1 - A.length) dc, .slice (some ⟨b, 0, none⟩) 1 1]).run Tryz.prog W1 = .ok (goInt (Nat.min 1 (n + 1 - A.length))) (W1.setCells g (A.length) [Value.int .i64 x]) := fun ty dc =>
    icopy3 W1 ty g _ _ dc ⟨b, 0, none⟩ 1 1 [Value.int .i64 x] (by simp only [Nat.min_def, List.length_cons, List.length_nil]; split <;> omega)
      (fun j v hj => by
        rw [Addr.add_lit]
        have hb2 : W1.heap[b]? = w.heap[b]? := hg1.block b (by unfold OneR at h1; exact (Array.getElem?_eq_some_iff.1 h1).1) (fun e => hbg (Option.some.inj e))
        have h2 : OneR W1 b x := hb2.trans h1
        exact h2.row j v hj)
      (fun j hj => ho1.someI (by simp at hj; omega)) (fun j _ => ho1.frozen _) ((Lay.one x))
  have FIN : Hid (OwnR (W1.setCells g (A.length) [Value.int .i64 x]) g cap (A ++ x :: y :: R) ∧ w.grownBy (W1.setCells g (A.length) [Value.int .i64 x]) (some g)) :=
    ⟨ho1.swapI x, ngrown_trans hg1 (ngrown_setCells _ _ _)⟩
  have hin : A.length < n := by omega
  have hini : (A.length : Int) < (n : Int) := by omega
  have hw1 : IntKind.i64.wrap ((A.length : Int) + 1) = (A.length : Int) + 1 := by rw [IntKind.wrap_i64]; omega
  have hb1 : (0 : Int) ≤ (A.length : Int) + 1 := by omega
  have hb2 : ¬ (cap = A.length + 1) := by omega
  have hb3 : (A.length : Int) ≤ (n : Int) + 1 := by omega
  have hb4 : ¬ (cap = A.length) := by omega
  have hb5 : (A.length : Int) + 1 ≤ (n : Int) + 1 := by omega
  have hb6 : ¬ ((cap : Int) < (n : Int) + 1) := by omega
  have hz2 : ¬ ((A.length : Int) = (n : Int)) := by omega
  have htn : ((A.length : Int) + 1).toNat = A.length + 1 := by omega
  clear hW1 ho1 hg1 hrow hshg hshb hfb ho h1 hn
  go_enter Tryz.func183, Tryz.ntmps183
  go_wp2_with (simp only [hov])
  go_region_law (refine step_copy_runN rfl (.tmp 73) (.tmp 76) 29 29 rfl (.slice (some ⟨g, (A.length + 1), none⟩) (n - A.length) (cap - (A.length + 1))) (.slice (some ⟨g, A.length, none⟩) (n + 1 - A.length) (cap - A.length)) (by simp [Act.eval, Act.put]) (by simp [Act.eval, Act.put]) (hcp1 _ _ _) ?_)
  go_wp2_with (at_builtin; refine wpList_copy_runN _ rfl _ _ 29 29 rfl _ _ rfl rfl (hcp2 _ _) ?_)
  go_ret
  exact ⟨rfl, FIN.out⟩

theorem izeros (k : Nat) : (Builtin.zeroCells (Value.int .i64 0).cells k).size = k := by
  simp [Builtin.zeroCells, Value.cells]

set_option maxRecDepth 10000 in
set_option maxHeartbeats 2000000 in
/-- there is no room -/
theorem iinsert_grow (g cap : Nat) (A R : List Int) (y x : Int) (n b : Nat) (w : World) (ho : OwnR w g cap (A ++ y :: R)) (hn : n = A.length + R.length + 1) (hsm : n ≤ 2147483647) (hroom : cap < n + 1) (h1 : OneR w b x) :
    Calls Tryz.prog 183 #[.slice (some ⟨g, 0, none⟩) n cap, .int .i64 A.length, .slice (some ⟨b, 0, none⟩) 1 1] w fun e w' =>
      ∃ cap', e = .returned (.slice (some ⟨w.heap.size, 0, none⟩) (n + 1) cap') ∧ OwnR w' w.heap.size cap' (A ++ x :: y :: R) ∧ Below w.heap.size w w' := by
  have hcap : cap = n := by have := ho.le; simp at this; omega
  obtain ⟨i0, hi0, hz0, hz1, hz2⟩ := iinfo
  have hrow := ho.row
  have hgw := ho.lt
  have hbw : b < w.heap.size := by unfold OneR at h1; exact (Array.getElem?_eq_some_iff.1 h1).1
  have hold : (Builtin.firstCells i0.size A.length (.slice (some ⟨g, 0, none⟩) A.length cap)).run Tryz.prog w.drew = .ok (cellsL A).toArray w.drew := by
    rw [hz1]
    exact run_firstCells_some w.drew 1 A.length ⟨g, 0, none⟩ A.length cap (cellsL A) ((cellsI_length A).trans (Nat.mul_one _).symm) (fun j v hj => by
      rw [Addr.add_lit]
      exact hrow j v (by rw [cellsL_append, List.getElem?_append_left (List.getElem?_eq_some_iff.1 hj).1]; exact hj))
  obtain ⟨G, hG⟩ : ∃ G, G = grownCap w (n + 1) cap 3 := ⟨_, rfl⟩
  have hGn : n + 1 ≤ G := by rw [hG]; exact grownCap_ge w _ _ _
  have hGm : G ≤ maxLen := by rw [hG]; exact grownCap_le_maxLen w (n + 1) cap _ (by unfold maxLen; omega)
  have hG63 : G ≤ 9223372036854775807 := by have := hGm; unfold maxLen at this; omega
  obtain ⟨ROW, hROW⟩ : ∃ ROW : Array Value, ROW = (cellsL A).toArray ++ Builtin.zeroCells (Value.int .i64 0).cells (n + 1 - A.length) ++ Builtin.zeroCells (Value.int .i64 0).cells (G - (n + 1)) := ⟨_, rfl⟩
  obtain ⟨W1, hW1⟩ : ∃ W1, W1 = w.drew.alloc (.cells ROW 3) := ⟨_, rfl⟩
  have hik : A.length + (n + 1 - A.length) = n + 1 := by omega
  have hrz : ∀ ty, (Builtin.append_ #[29, 3] ty #[.slice (some ⟨g, 0, none⟩) A.length cap, .int .i64 ((n : Int) + 1 - (A.length : Int))]).run Tryz.prog w =
      .ok (.slice (some ⟨w.heap.size, 0, none⟩) (n + 1) G) W1 := fun ty => by
    have h := Lib.run_append_grow_zeros w 29 3 ty 3 i0 _ .i64 .i64 Tryz.underlying29 Tryz.underlying3 hi0 hz0 (some ⟨g, 0, none⟩) A.length cap (cellsL A) hold (n + 1 - A.length) (by omega) (by omega) (by omega) (by omega) (by rw [hz2]; omega) (by rw [hz2, hik]; exact growslice_fits hroom (by omega))
    rw [hik, ← hG, ← hROW, ← hW1] at h
    rw [show (n : Int) + 1 - (A.length : Int) = ((n + 1 - A.length : Nat) : Int) by omega]
    exact h
  have ho1 : OwnR W1 w.heap.size G A := by
    refine ⟨(Builtin.zeroCells (Value.int .i64 0).cells (n + 1 - A.length) ++ Builtin.zeroCells (Value.int .i64 0).cells (G - (n + 1))).toList, ?_, ?_, by omega, hGm⟩
    · rw [hW1, hROW]
      have := heap_alloc_new w.drew (.cells ((cellsL A).toArray ++ Builtin.zeroCells (Value.int .i64 0).cells (n + 1 - A.length) ++ Builtin.zeroCells (Value.int .i64 0).cells (G - (n + 1))) 3)
      refine Eq.trans this ?_
      congr 2
      apply Array.toList_inj.1
      simp
    · simp only [show Lay.k Int = 1 from rfl, Array.length_toList, Array.size_append, izeros, Nat.mul_one]; omega
  have hB1 : Below w.heap.size w W1 := by rw [hW1]; exact ((Below.refl _ w).drew).alloc (Nat.le_refl _) _
  obtain ⟨W2, hW2⟩ : ∃ W2, W2 = W1.setCells w.heap.size (A.length) [Value.int .i64 x] := ⟨_, rfl⟩
  have ho2 : OwnR W2 w.heap.size G (A ++ [x]) := by
    have h : OwnR W1 w.heap.size G (A ++ []) := by rw [List.append_nil]; exact ho1
    have := h.spliceI [x] (by simp; omega)
    rw [hW2]
    rw [cellsL_cons, cellsL_nil, List.append_nil] at this
    exact this
  have hg2 : W1.grownBy W2 (some w.heap.size) := by rw [hW2]; exact ngrown_setCells _ _ _
  have hB2 : Below w.heap.size w W2 := hB1.grown hg2 hB1.size (fun k e => by cases e; exact Nat.le_refl _)
  have hcpA : ∀ ty dc, (Builtin.copy_ #[29, 29] ty #[.slice (some ⟨w.heap.size, A.length, none⟩) (n + 1 - A.length) dc, .slice (some ⟨b, 0, none⟩) 1 1]).run Tryz.prog W1 = .ok (goInt (Nat.min 1 (n + 1 - A.length))) W2 := fun ty dc => by
    rw [hW2]
    exact icopy3 W1 ty w.heap.size _ _ dc ⟨b, 0, none⟩ 1 1 [Value.int .i64 x] (by simp only [Nat.min_def, List.length_cons, List.length_nil]; split <;> omega)
      (fun j v hj => by rw [Addr.add_lit]; exact (show OneR W1 b x from (hB1.block b hbw).trans h1).row j v hj)
      (fun j hj => ho1.someI (by simp at hj; omega)) (fun j _ => ho1.frozen _) ((Lay.one x))
  obtain ⟨W3, hW3⟩ : ∃ W3, W3 = W2.drew.setCells w.heap.size ((A.length + 1)) (cellsL (y :: R)) := ⟨_, rfl⟩
  have hcpB : ∀ ty dc sc, (Builtin.copy_ #[29, 29] ty #[.slice (some ⟨w.heap.size, (A.length + 1), none⟩) (n - A.length) dc, .slice (some ⟨g, A.length, none⟩) (n - A.length) sc]).run Tryz.prog W2.drew = .ok (goInt (Nat.min (n - A.length) (n - A.length))) W3 := fun ty dc sc => by
    rw [hW3]
    exact icopy3 W2.drew ty w.heap.size _ _ dc ⟨g, A.length, none⟩ _ sc (cellsL (y :: R)) (by rw [cellsI_length]; simp only [Nat.min_self, List.length_cons]; omega)
      (fun j v hj => by
        rw [Addr.add_lit]
        have := hrow (A.length + j) v (by rw [cellsL_append, List.getElem?_append_right (by rw [cellsI_length]; omega), cellsI_length, Nat.add_sub_cancel_left]; exact hj)
        rw [Nat.zero_add] at this
        exact (hB2.cell (p := ⟨g, A.length + j, none⟩) hgw).trans this)
      (fun j hj => by rw [cellsI_length] at hj; exact ho2.drew.someI (by simp at hj; omega)) (fun j _ => ho2.drew.frozen _) (cellsL_one _)
  have FIN : Hid (OwnR W3 w.heap.size G (A ++ x :: y :: R) ∧ Below w.heap.size w W3) := by
    refine ⟨?_, ?_⟩
    · have h : OwnR W2.drew w.heap.size G ((A ++ [x]) ++ []) := by rw [List.append_nil]; exact ho2
      have := h.spliceI (y :: R) (by simp; omega)
      rw [hW3]
      simpa using this
    · rw [hW3]; exact hB2.drew.grown (ngrown_setCells _ _ _) hB2.size (fun k e => by cases e; exact Nat.le_refl _)
  have hin : A.length < n := by omega
  have hini : (A.length : Int) < (n : Int) := by omega
  have hw1 : IntKind.i64.wrap ((A.length : Int) + 1) = (A.length : Int) + 1 := by rw [IntKind.wrap_i64]; omega
  have hb1 : (0 : Int) ≤ (A.length : Int) + 1 := by omega
  have hb2 : ¬ (G = A.length + 1) := by omega
  have hb3 : (A.length : Int) ≤ (n : Int) + 1 := by omega
  have hb4 : ¬ (n = A.length) := by omega
  have hb5 : (A.length : Int) + 1 ≤ (n : Int) + 1 := by omega
  have hb6 : ¬ (G = A.length) := by omega
  have hb7 : (A.length : Int) ≤ (n : Int) := by omega
  have hz3 : ¬ ((A.length : Int) = (n : Int)) := by omega
  have htn : ((A.length : Int) + 1).toNat = A.length + 1 := by omega
  subst hcap
  clear hn hROW hW1 hW2 hW3 hG hrow ho h1 ho1 ho2 hB1 hB2 hg2 hold hik
  go_enter Tryz.func183, Tryz.ntmps183
  go_wp2_with (first
    | (at_builtin; refine Lib.wpList_append_run _ rfl _ _ _ _ rfl _ _ rfl rfl _ _ (hrz _) ?_)
    | (at_builtin; refine wpList_copy_runN _ rfl _ _ 29 29 rfl _ _ rfl rfl (hcpA _ _) ?_))
  go_region_law (refine step_copy_runN rfl (.tmp 50) (.tmp 53) 29 29 rfl (.slice (some ⟨w.heap.size, (A.length + 1), none⟩) (cap - A.length) (G - (A.length + 1))) (.slice (some ⟨g, A.length, none⟩) (cap - A.length) (cap - A.length)) (by simp [Act.eval, Act.put]) (by simp [Act.eval, Act.put]) (hcpB _ _ _) ?_)
  go_wp2
  go_ret
  exact ⟨G, rfl, FIN.out⟩

theorem iinsert_any (v : Value) (A R : List Int) (x : Int) (q : Nat) (w : World) (ho : OwnS w 0 v (A ++ R)) (hl : (A ++ R).length ≤ 2147483647) (h1 : OneR w q x) (hq : v.ownBlock ≠ some q) :
    Calls Tryz.prog 183 #[v, .int .i64 A.length, .slice (some ⟨q, 0, none⟩) 1 1] w fun e w' =>
      ∃ v', e = .returned v' ∧ OwnS w' 0 v' (A ++ x :: R) ∧ w.grownBy w' v.ownBlock ∧ (v'.ownBlock = v.ownBlock ∨ ∃ k, w.heap.size ≤ k ∧ v'.ownBlock = some k) := by
  cases R with
  | nil =>
    rw [List.append_nil] at ho hl
    refine (iinsert_end v A x 0 q w ho (Nat.zero_le _) hl h1).mono ?_
    rintro e w' ⟨v', rfl, h2, h3, h4⟩
    refine ⟨v', rfl, h2, h3, ?_⟩
    rcases h4 with h | h
    · exact .inl h
    · exact .inr ⟨_, Nat.le_refl _, h⟩
  | cons y R =>
    rcases ho with ⟨_, h⟩ | ⟨g, cap, rfl, _, ho⟩
    · simp at h
    · have hn : (A ++ y :: R).length = A.length + R.length + 1 := by simp; omega
      by_cases hc : (A ++ y :: R).length + 1 ≤ cap
      · refine (iinsert_shift g cap A R y x _ q w ho hn hl hc h1 (fun e => hq (by rw [e]; rfl))).mono ?_
        rintro e w' ⟨rfl, h2, h3⟩
        exact ⟨_, rfl, .inr ⟨g, cap, by simp; omega, Nat.zero_le _, h2⟩, h3, .inl rfl⟩
      · refine (iinsert_grow g cap A R y x _ q w ho hn hl (by omega) h1).mono ?_
        rintro e w' ⟨cap', rfl, h2, h3⟩
        exact ⟨_, rfl, .inr ⟨w.heap.size, cap', by simp; omega, Nat.zero_le _, h2⟩, ⟨h3.os, h3.tape, h3.output, h3.size, fun k hk _ => h3.block k hk⟩, .inr ⟨_, Nat.le_refl _, rfl⟩⟩

end Go.Proofs.YtaoflcmeiaffjaaGreatDoor

namespace Go.Proofs.YtaoflcmeiaffjaaGreatDoor
open Go.RowKit

theorem GoodN.mono {z z' : Int} {ns : List Nd} {ss : List Int} (g : GoodN z ns ss) (h : z ≤ z') : GoodN z' ns ss :=
  ⟨g.few, g.root, g.asc, fun n hn => by
    have k := g.ok n hn
    have := k.mz
    have := k.qz
    exact ⟨k.data, k.path, k.up, k.c0, k.cm, k.cq, by omega, by omega, k.v0, k.v1, k.k0, k.kids, k.own⟩⟩
theorem GoodN.more {z : Int} {ns : List Nd} {ss ss' : List Int} (g : GoodN z ns ss) (h : ∀ n ∈ ns, n.o ≠ 0 → n.o ∈ ss → n.o ∈ ss') : GoodN z ns ss' :=
  ⟨g.few, g.root, g.asc, fun n hn => by
    have k := g.ok n hn
    refine ⟨k.data, k.path, k.up, k.c0, k.cm, k.cq, k.mz, k.qz, k.v0, k.v1, k.k0, k.kids, ?_⟩
    rcases k.own with h' | ⟨h1, h2⟩
    · exact .inl h'
    · by_cases h0 : n.o = 0
      · exact .inl h0
      · exact .inr ⟨h n hn h0 h1, h2⟩⟩
theorem up_look {z : Int} {ns : List Nd} {ss : List Int} (g : GoodN z ns ss) {n : Nd} (hn : n ∈ ns) (hp : n.p ≠ [47]) : ∃ u, lookN ns (dirOf n.p) = some u ∧ u ∈ ns ∧ u.p = dirOf n.p ∧ u.p ≠ n.p ∧ u.o = 0 := by
  obtain ⟨u, hu, he⟩ := (g.ok n hn).up hp
  have hne : u.p ≠ n.p := by rw [he]; exact (dirOf_ne (g.ok n hn).path hp).1
  refine ⟨u, by rw [← he]; exact look_mem g.asc hu, hu, he, hne, ?_⟩
  rcases (g.ok u hu).own with h | ⟨_, h⟩
  · exact h
  · exfalso
    have h1 := (g.ok u hu).kids
    have h2 : 0 < kidsN ns u.p := List.countP_pos_iff.2 ⟨n, hn, by simp [he]⟩
    omega
theorem root_p {z : Int} {ns : List Nd} {ss : List Int} (g : GoodN z ns ss) {n : Nd} (hn : n ∈ ns) (h : n.o ≠ 0) : n.p ≠ [47] := by
  intro e
  obtain ⟨r, rest, hr, hp, ho⟩ := g.root
  have : n = r := nasc_uniq g.asc hn (by rw [hr]; simp) (by rw [e, hp])
  exact h (by rw [this]; exact ho)

/- a change that leaves all paths -/
theorem chg_good {z : Int} {ns : List Nd} {ss : List Int} (g : GoodN z ns ss) (f : Nd → Nd) (hf : ∀ n, (f n).p = n.p) (hk : ∀ n ∈ ns, NOk z ns ss n → NOk z ns ss (f n) ∧ (n.p = [47] → (f n).o = n.o)) : GoodN z (ns.map f) ss := by
  have hp : (ns.map f).map Nd.p = ns.map Nd.p := by rw [List.map_map]; exact List.map_congr_left fun n _ => hf n
  have hkd : ∀ p, kidsN (ns.map f) p = kidsN ns p := fun p => by rw [kidsN_paths, hp, ← kidsN_paths]
  refine ⟨by simpa using g.few, ?_, by rw [nasc_paths, hp, ← nasc_paths]; exact g.asc, ?_⟩
  · obtain ⟨r, rest, h, h1, h2⟩ := g.root
    exact ⟨f r, rest.map f, by rw [h]; rfl, by rw [hf, h1], by rw [(hk r (by rw [h]; simp) (g.ok r (by rw [h]; simp))).2 h1, h2]⟩
  · intro n hn
    obtain ⟨m, hm, rfl⟩ := List.mem_map.1 hn
    have k := (hk m hm (g.ok m hm)).1
    refine ⟨k.data, k.path, fun h => ?_, k.c0, k.cm, k.cq, k.mz, k.qz, k.v0, k.v1, k.k0, by rw [hkd]; exact k.kids, k.own⟩
    obtain ⟨u, hu, he⟩ := k.up h
    exact ⟨f u, List.mem_map.2 ⟨u, hu, rfl⟩, by rw [hf]; exact he⟩

/- a node goes -/
def rmN (z : Int) (ns : List Nd) (p : List UInt8) : List Nd := bumpAt (dirOf p) z (-1) (dropN ns p)
theorem rm_good {z : Int} {ns A B : List Nd} {ss : List Int} {n : Nd} {p : List UInt8} (g : GoodN z ns ss) (T : NThere ns A n B p) (hk : n.n = 0) (hp : p ≠ [47]) : GoodN z (rmN z ns p) ss := by
  have hn : n ∈ ns := by rw [T.eq]; simp
  have hnp := T.nm
  have hdrop := T.drop
  have hpaths : (rmN z ns p).map Nd.p = (A ++ B).map Nd.p := by rw [rmN, bumpAt_paths, hdrop]
  have hsub : (A ++ B).Sublist ns := by rw [T.eq]; exact (List.Sublist.refl A).append (List.sublist_cons_self n B)
  have hkid : ∀ x, kidsN (rmN z ns p) x + (if dirOf p = x then 1 else 0) = kidsN ns x := by
    intro x
    rw [kidsN_paths, hpaths, ← kidsN_paths, T.eq]
    simp only [kidsN, List.countP_append, List.countP_cons, decide_eq_true_eq, hnp]
    omega
  have hno : ∀ m ∈ ns, dirOf m.p ≠ p := by
    intro m hm e
    have h1 := (g.ok n hn).kids
    have h2 : 0 < kidsN ns n.p := List.countP_pos_iff.2 ⟨m, hm, by simp [e, hnp]⟩
    omega
  have hmem : ∀ m ∈ ns, m.p ≠ p → m ∈ A ++ B := by
    intro m hm h
    rw [← hdrop, dropN]
    exact List.mem_filter.2 ⟨hm, by simpa using h⟩
  refine ⟨?_, ?_, ?_, ?_⟩
  · have h1 := g.few
    have h2 : (rmN z ns p).length = (A ++ B).length := by have := congrArg List.length hpaths; simpa using this
    rw [T.eq] at h1
    simp at h1 h2 ⊢
    omega
  · obtain ⟨r, rest, h, h1, h2⟩ := g.root
    cases A with
    | nil =>
      have := T.eq
      rw [h] at this
      cases this
      exact absurd (hnp.symm.trans h1) hp
    | cons a A' =>
      have := T.eq
      rw [h] at this
      cases this
      rw [rmN, hdrop, bumpAt]
      refine ⟨_, _, List.map_cons, by rw [bump_p]; exact h1, ?_⟩
      split
      · exact h2
      · exact h2
  · rw [nasc_paths, hpaths, ← nasc_paths]
    exact g.asc.sublist hsub
  · intro m' hm'
    rw [rmN, hdrop, bumpAt] at hm'
    obtain ⟨m, hm, rfl⟩ := List.mem_map.1 hm'
    have hms := hsub.mem hm
    have k := g.ok m hms
    have hup : m.p ≠ [47] → ∃ u ∈ rmN z ns p, u.p = dirOf m.p := by
      intro h
      obtain ⟨u, hu, he⟩ := k.up h
      have h1 := hmem u hu (by rw [he]; exact hno m hms)
      exact ⟨_, by rw [rmN, hdrop, bumpAt]; exact List.mem_map.2 ⟨u, h1, rfl⟩, by rw [bump_p]; exact he⟩
    have hkm := hkid m.p
    have := k.kids
    have := k.c0
    have := k.cq
    have := k.qz
    have := k.k0
    split
    · rename_i e
      rw [if_pos e.symm] at hkm
      refine ⟨k.data, k.path, hup, k.c0, k.cm, ?_, k.mz, ?_, k.v0, k.v1, ?_, ?_, ?_⟩
      · show m.c ≤ z; omega
      · exact Int.le_refl _
      · show 0 ≤ m.k + 1; omega
      · show m.n + -1 = _; show _ = ((kidsN (rmN z ns p) m.p : Nat) : Int); omega
      · rcases k.own with h | ⟨h1, h2⟩
        · exact .inl h
        · omega
    · rename_i e
      rw [if_neg (fun h => e h.symm)] at hkm
      exact ⟨k.data, k.path, hup, k.c0, k.cm, k.cq, k.mz, k.qz, k.v0, k.v1, k.k0, by omega, k.own⟩

/- a node comes -/
def addN (z : Int) (ns : List Nd) (x : Nd) : List Nd := bumpAt (dirOf x.p) z 1 (insN ns x)
theorem add_good {z : Int} {ns A B : List Nd} {ss : List Int} {x : Nd} (g : GoodN z ns ss) (G : NGap ns A B x.p) (hl : ns.length < 400) (hg : goodB x.p = true) (hp : x.p ≠ [47]) (hu : ∃ u ∈ ns, u.p = dirOf x.p ∧ u.o = 0)
    (hd : x.d.length ≤ 256) (hz : 0 ≤ z) (hc : x.c = z) (hm : x.m = z) (hq : x.q = z) (hv : x.v = 0) (hk : x.k = 0) (hn : x.n = 0) (ho : x.o = 0 ∨ x.o ∈ ss) : GoodN z (addN z ns x) ss := by
  have hins := G.ins
  have hpaths : (addN z ns x).map Nd.p = (A ++ x :: B).map Nd.p := by rw [addN, bumpAt_paths, hins]
  have hmem : ∀ m ∈ ns, m ∈ A ++ x :: B := by
    intro m h
    rw [G.eq] at h
    rcases List.mem_append.1 h with h | h <;> simp [h]
  have hkid : ∀ y, kidsN (addN z ns x) y = kidsN ns y + (if dirOf x.p = y then 1 else 0) := by
    intro y
    rw [kidsN_paths, hpaths, ← kidsN_paths, G.eq]
    simp only [kidsN, List.countP_append, List.countP_cons, decide_eq_true_eq]
    omega
  have hno : kidsN ns x.p = 0 := by
    apply List.countP_eq_zero.2
    intro m hm
    simp only [decide_eq_true_eq]
    intro e
    have k := g.ok m hm
    by_cases h : m.p = [47]
    · rw [h, dirOf_root] at e
      rw [← e, ngood_nil] at hg
      cases hg
    · obtain ⟨u, hu, he⟩ := k.up h
      exact G.no u hu (he.trans e)
  obtain ⟨r, rest, hr, hr1, hr2⟩ := g.root
  refine ⟨?_, ?_, ?_, ?_⟩
  · have h2 : (addN z ns x).length = (A ++ x :: B).length := by have := congrArg List.length hpaths; simpa using this
    rw [G.eq] at hl
    simp at hl h2 ⊢
    omega
  · cases A with
    | nil =>
      exfalso
      have hB := G.eq
      simp at hB
      have h1 := G.hi r (by rw [← hB, hr]; simp)
      rw [hr1] at h1
      obtain ⟨s, hs⟩ := ngood_slash hg
      rw [hs] at h1 hp
      cases s with
      | nil => exact hp rfl
      | cons c s => simp [bl, Op.bytesLess] at h1
    | cons a A' =>
      have := G.eq
      rw [hr] at this
      cases this
      rw [addN, hins, bumpAt]
      refine ⟨_, _, List.map_cons, by rw [bump_p]; exact hr1, ?_⟩
      split
      · exact hr2
      · exact hr2
  · rw [nasc_paths, hpaths, ← nasc_paths]
    have h := g.asc
    rw [G.eq] at h
    unfold NAsc at h ⊢
    rw [List.pairwise_append] at h
    rw [List.pairwise_append, List.pairwise_cons]
    refine ⟨h.1, ⟨G.hi, h.2.1⟩, fun a ha b hb => ?_⟩
    rcases List.mem_cons.1 hb with rfl | hb
    · exact G.lo a ha
    · exact h.2.2 a ha b hb
  · have hin : ∀ m ∈ A ++ x :: B, (if m.p = dirOf x.p then bump z 1 m else m) ∈ addN z ns x := fun m h => by rw [addN, hins, bumpAt]; exact List.mem_map.2 ⟨m, h, rfl⟩
    intro m' hm'
    rw [addN, hins, bumpAt] at hm'
    obtain ⟨m, hm2, rfl⟩ := List.mem_map.1 hm'
    have hcase : m = x ∨ m ∈ ns := by
      rcases List.mem_append.1 hm2 with h | h
      · exact .inr (by rw [G.eq]; simp [h])
      · rcases List.mem_cons.1 h with h | h
        · exact .inl h
        · exact .inr (by rw [G.eq]; simp [h])
    rcases hcase with rfl | hms
    · rw [if_neg (fun h => (dirOf_ne hg hp).1 h.symm)]
      obtain ⟨u, hu1, hu2, _⟩ := hu
      have hkm := hkid m.p
      rw [if_neg (dirOf_ne hg hp).1, hno] at hkm
      refine ⟨hd, hg, fun _ => ⟨_, hin u (hmem u hu1), by rw [bump_p]; exact hu2⟩, by omega, by omega, by omega, by omega, by omega, by omega, by omega, by omega, by omega, ?_⟩
      rcases ho with h | h
      · exact .inl h
      · exact .inr ⟨h, hn⟩
    · have k := g.ok m hms
      have hup : m.p ≠ [47] → ∃ u ∈ addN z ns x, u.p = dirOf m.p := fun h => by
        obtain ⟨u, hu, he⟩ := k.up h
        exact ⟨_, hin u (hmem u hu), by rw [bump_p]; exact he⟩
      have hkm := hkid m.p
      have := k.kids
      have := k.cq
      have := k.qz
      have := k.k0
      split
      · rename_i e
        rw [if_pos e.symm] at hkm
        refine ⟨k.data, k.path, hup, k.c0, k.cm, ?_, k.mz, Int.le_refl _, k.v0, k.v1, ?_, ?_, ?_⟩
        · show m.c ≤ z; omega
        · show 0 ≤ m.k + 1; omega
        · show m.n + 1 = ((kidsN (addN z ns x) m.p : Nat) : Int); omega
        · obtain ⟨u, hu1, hu2, hu3⟩ := hu
          have : m = u := nasc_uniq g.asc hms hu1 (by rw [e, hu2])
          exact .inl (by rw [this]; exact hu3)
      · rename_i e
        rw [if_neg (fun h => e h.symm)] at hkm
        exact ⟨k.data, k.path, hup, k.c0, k.cm, k.cq, k.mz, k.qz, k.v0, k.v1, k.k0, by omega, k.own⟩

/- a node is set -/
theorem set_good {z : Int} {ns : List Nd} {ss : List Int} (g : GoodN z ns ss) (p d : List UInt8) (v : Int) (hd : d.length ≤ 256) (hv : 0 ≤ v ∧ v ≤ 2147483647) (hz : ∀ n ∈ ns, n.c ≤ z) : GoodN z (setAt p d v z ns) ss := by
  refine chg_good g _ (fun n => by split <;> rfl) (fun n hn k => ?_)
  split
  · exact ⟨⟨hd, k.path, k.up, k.c0, hz n hn, k.cq, Int.le_refl _, k.qz, hv.1, hv.2, k.k0, k.kids, k.own⟩, fun _ => rfl⟩
  · exact ⟨k, fun _ => rfl⟩

end Go.Proofs.YtaoflcmeiaffjaaGreatDoor

namespace Go.Proofs.YtaoflcmeiaffjaaGreatDoor
open Go.RowKit

def ownedP (ns : List Nd) (s : Int) : List (List UInt8) := (ns.filter fun n => decide (n.o = s)).map Nd.p
def rmAll (z : Int) (ns : List Nd) (ps : List (List UInt8)) : List Nd := ps.foldl (rmN z) ns
def rmEv (ps : List (List UInt8)) : List Ev := ps.flatMap fun p => [⟨2, p⟩, ⟨4, dirOf p⟩]
def fullN (ns : List Nd) : Bool := ns.any fun n => decide (2147483647 < n.k)
def newN (x : WTxn) : Nd := ⟨x.p, x.d, x.z, x.z, x.z, 0, 0, x.w, 0⟩
noncomputable def admE (t : Tr) (x : WTxn) : Int :=
  if goodT t = false then 3 else if gdE x ≠ 0 then gdE x else if x.z ≤ t.z then 13 else if x.o = 1 ∧ x.s ∈ t.ss then 8 else if x.o ≠ 1 ∧ x.s ∉ t.ss then 12 else 0
def creE (t : Tr) (x : WTxn) : Int := if (lookN t.ns x.p).isSome = true then 8 else (match lookN t.ns (dirOf x.p) with
  | none => 7
  | some u => if u.o ≠ 0 then 11 else if x.w ≠ 0 ∧ x.w ≠ x.s then 12 else if t.ns.length = 400 then 6 else 0)
def delE (t : Tr) (x : WTxn) : Int := match lookN t.ns x.p with
  | none => 7
  | some n => if n.n ≠ 0 then 10 else 0
def setE (t : Tr) (x : WTxn) : Int := match lookN t.ns x.p with
  | none => 7
  | some n => if x.v ≠ n.v + 1 then 9 else 0
def chgE (t : Tr) (x : WTxn) : Int := if x.o = 3 then creE t x else if x.o = 4 then delE t x else if x.o = 5 then setE t x else 0
def chgN (t : Tr) (x : WTxn) : List Nd := if x.o = 2 then rmAll x.z t.ns (ownedP t.ns x.s) else if x.o = 3 then addN x.z t.ns (newN x) else if x.o = 4 then rmN x.z t.ns x.p else if x.o = 5 then setAt x.p x.d x.v x.z t.ns else t.ns
def chgS (t : Tr) (x : WTxn) : List Int := if x.o = 1 then insS t.ss x.s else if x.o = 2 then dropS t.ss x.s else t.ss
def chgV (t : Tr) (x : WTxn) : List Ev := if x.o = 2 then rmEv (ownedP t.ns x.s) else if x.o = 3 then [⟨1, x.p⟩, ⟨4, dirOf x.p⟩] else if x.o = 4 then [⟨2, x.p⟩, ⟨4, dirOf x.p⟩] else if x.o = 5 then [⟨3, x.p⟩] else []
noncomputable def appE (t : Tr) (x : WTxn) : Int := if admE t x ≠ 0 then admE t x else if chgE t x ≠ 0 then chgE t x else if fullN (chgN t x) = true then 6 else 0
noncomputable def appT (t : Tr) (x : WTxn) : Tr := if appE t x = 0 then ⟨x.z, chgN t x, chgS t x⟩ else tr0
noncomputable def appV (t : Tr) (x : WTxn) : List Ev := if appE t x = 0 then chgV t x else []

theorem fullN_false {ns : List Nd} : fullN ns = false ↔ ∀ n ∈ ns, n.k ≤ 2147483647 := by
  rw [fullN, List.any_eq_false]
  constructor
  · intro h n hn; have := h n hn; simp at this; omega
  · intro h n hn; have := h n hn; simp; omega
theorem fullN_true {ns : List Nd} : fullN ns = true ↔ ∃ n ∈ ns, 2147483647 < n.k := by
  rw [fullN, List.any_eq_true]
  constructor
  · rintro ⟨n, hn, h⟩; exact ⟨n, hn, by simpa using h⟩
  · rintro ⟨n, hn, h⟩; exact ⟨n, hn, by simpa using h⟩

/- one of a row of removals -/
structure Rest (s : Int) (cur : List Nd) (ps : List (List UInt8)) : Prop where
  s0 : s ≠ 0
  nd : ps.Nodup
  there : ∀ p ∈ ps, ∃ n ∈ cur, n.p = p ∧ n.o = s
theorem mem_rm {z : Int} {ns : List Nd} {p : List UInt8} {n : Nd} (h : n ∈ rmN z ns p) : ∃ m ∈ ns, m.p ≠ p ∧ n = (if m.p = dirOf p then bump z (-1) m else m) := by
  rw [rmN, bumpAt] at h
  obtain ⟨m, hm, rfl⟩ := List.mem_map.1 h
  rw [dropN] at hm
  obtain ⟨h1, h2⟩ := List.mem_filter.1 hm
  exact ⟨m, h1, by simpa using h2, rfl⟩
theorem rm_mem {z : Int} {ns : List Nd} {p : List UInt8} {m : Nd} (h : m ∈ ns) (hp : m.p ≠ p) : (if m.p = dirOf p then bump z (-1) m else m) ∈ rmN z ns p := by
  rw [rmN, bumpAt]
  exact List.mem_map.2 ⟨m, by rw [dropN]; exact List.mem_filter.2 ⟨h, by simpa using hp⟩, rfl⟩
theorem bump_o (q : List UInt8) (z more : Int) (n : Nd) : (if n.p = q then bump z more n else n).o = n.o := by split <;> rfl
theorem bump_d (q : List UInt8) (z more : Int) (n : Nd) : (if n.p = q then bump z more n else n).d = n.d := by split <;> rfl
theorem bump_v (q : List UInt8) (z more : Int) (n : Nd) : (if n.p = q then bump z more n else n).v = n.v := by split <;> rfl
theorem bump_k (q : List UInt8) (z more : Int) (n : Nd) : n.k ≤ (if n.p = q then bump z more n else n).k := by
  split
  · show n.k ≤ n.k + 1; omega
  · exact Int.le_refl _
theorem rest_step {z s : Int} {cur : List Nd} {ss : List Int} {p : List UInt8} {ps : List (List UInt8)} (g : GoodN z cur ss) (R : Rest s cur (p :: ps)) :
    ∃ A n B u, NThere cur A n B p ∧ n.o = s ∧ n.n = 0 ∧ p ≠ [47] ∧ goodB p = true ∧ lookN cur (dirOf p) = some u ∧ u ∈ cur ∧ u.p = dirOf p ∧ u.p ≠ p ∧ u.o = 0 ∧ u.p ∉ ps ∧ GoodN z (rmN z cur p) ss ∧ Rest s (rmN z cur p) ps := by
  obtain ⟨n, hn, rfl, ho⟩ := R.there p (by simp)
  obtain ⟨A, B, T⟩ := there_of_look g.asc (look_mem g.asc hn)
  have h0 : n.o ≠ 0 := by rw [ho]; exact R.s0
  have hk : n.n = 0 := by
    rcases (g.ok n hn).own with h | ⟨_, h⟩
    · exact absurd h h0
    · exact h
  have hr := root_p g hn h0
  obtain ⟨u, hu1, hu2, hu3, hu4, hu5⟩ := up_look g hn hr
  refine ⟨A, n, B, u, T, ho, hk, hr, (g.ok n hn).path, hu1, hu2, hu3, hu4, hu5, ?_, rm_good g T hk hr, R.s0, (List.nodup_cons.1 R.nd).2, ?_⟩
  · intro hm
    obtain ⟨m, hm1, hm2, hm3⟩ := R.there u.p (by simp [hm])
    have : m = u := nasc_uniq g.asc hm1 hu2 hm2
    rw [this, hu5] at hm3
    exact R.s0 hm3.symm
  · intro q hq
    obtain ⟨m, hm1, hm2, hm3⟩ := R.there q (by simp [hq])
    have hne : m.p ≠ n.p := by
      rw [hm2]
      rintro rfl
      exact (List.nodup_cons.1 R.nd).1 hq
    exact ⟨_, rm_mem hm1 hne, by rw [bump_p]; exact hm2, by rw [bump_o]; exact hm3⟩
theorem rest_owned {z s : Int} {ns : List Nd} {ss : List Int} (g : GoodN z ns ss) (h : s ≠ 0) : Rest s ns (ownedP ns s) := by
  refine ⟨h, ?_, fun p hp => ?_⟩
  · have h1 : (ns.filter fun n => decide (n.o = s)).Pairwise fun a b => bl a.p b.p = true := g.asc.filter _
    rw [List.Nodup, ownedP, List.pairwise_map]
    exact h1.imp fun h => bl_ne h
  · obtain ⟨n, hn, rfl⟩ := List.mem_map.1 hp
    obtain ⟨h1, h2⟩ := List.mem_filter.1 hn
    exact ⟨n, h1, rfl, by simpa using h2⟩
theorem rmAll_good {z s : Int} {ss : List Int} : ∀ (ps : List (List UInt8)) (cur : List Nd), GoodN z cur ss → Rest s cur ps → GoodN z (rmAll z cur ps) ss
  | [], _, g, _ => g
  | p :: ps, cur, g, R => by
    obtain ⟨_, _, _, _, _, _, _, _, _, _, _, _, _, _, _, g', R'⟩ := rest_step g R
    exact rmAll_good ps (rmN z cur p) g' R'
theorem mem_rmAll {z : Int} : ∀ (ps : List (List UInt8)) (cur : List Nd) (n : Nd), n ∈ rmAll z cur ps → ∃ m ∈ cur, m.p = n.p ∧ m.o = n.o ∧ m.d = n.d ∧ m.v = n.v ∧ m.p ∉ ps
  | [], cur, n, h => ⟨n, h, rfl, rfl, rfl, rfl, by simp⟩
  | p :: ps, cur, n, h => by
    obtain ⟨m, h1, h2, h3, h4, h5, h6⟩ := mem_rmAll ps (rmN z cur p) n h
    obtain ⟨m', h1', hne, rfl⟩ := mem_rm h1
    rw [bump_p] at h2 h6
    rw [bump_o] at h3
    rw [bump_d] at h4
    rw [bump_v] at h5
    exact ⟨m', h1', h2, h3, h4, h5, by simp [hne, h6]⟩
theorem rmAll_mem {z : Int} : ∀ (ps : List (List UInt8)) (cur : List Nd) (m : Nd), m ∈ cur → m.p ∉ ps → ∃ n ∈ rmAll z cur ps, n.p = m.p ∧ n.o = m.o ∧ n.d = m.d ∧ n.v = m.v ∧ m.k ≤ n.k
  | [], _, m, h, _ => ⟨m, h, rfl, rfl, rfl, rfl, Int.le_refl _⟩
  | p :: ps, cur, m, h, hp => by
    simp only [List.mem_cons, not_or] at hp
    have h' := rm_mem (z := z) h hp.1
    obtain ⟨n, h1, h2, h3, h4, h5, h6⟩ := rmAll_mem ps (rmN z cur p) _ h' (by rw [bump_p]; exact hp.2)
    exact ⟨n, h1, by rw [h2, bump_p], by rw [h3, bump_o], by rw [h4, bump_d], by rw [h5, bump_v], Int.le_trans (bump_k _ _ _ _) h6⟩
theorem rm_length {z : Int} {ns A B : List Nd} {n : Nd} {p : List UInt8} (T : NThere ns A n B p) : (rmN z ns p).length + 1 = ns.length := by
  rw [rmN, bumpAt, List.length_map, T.drop, T.eq]
  simp; omega
theorem rmAll_length {z s : Int} {ss : List Int} : ∀ (ps : List (List UInt8)) (cur : List Nd), GoodN z cur ss → Rest s cur ps → (rmAll z cur ps).length + ps.length = cur.length
  | [], _, _, _ => by simp [rmAll]
  | p :: ps, cur, g, R => by
    obtain ⟨_, _, _, _, T, _, _, _, _, _, _, _, _, _, _, g', R'⟩ := rest_step g R
    have h1 := rm_length (z := z) T
    have h2 := rmAll_length ps (rmN z cur p) g' R'
    have h3 : rmAll z cur (p :: ps) = rmAll z (rmN z cur p) ps := rfl
    rw [h3]
    simp; omega
theorem full_stays {z : Int} (ps : List (List UInt8)) (cur : List Nd) (h : ∃ u ∈ cur, u.p ∉ ps ∧ 2147483647 < u.k) : fullN (rmAll z cur ps) = true := by
  obtain ⟨u, h1, h2, h3⟩ := h
  obtain ⟨n, hn, _, _, _, _, hk⟩ := rmAll_mem (z := z) ps cur u h1 h2
  exact fullN_true.2 ⟨n, hn, by omega⟩
theorem rm_cap {z : Int} {ns : List Nd} {p : List UInt8} {u : Nd} (ha : NAsc ns) (hu : u ∈ ns) (hp : u.p = dirOf p) (hk : u.k < 2147483647) (h : ∀ n ∈ ns, n.k ≤ 2147483647) : ∀ n ∈ rmN z ns p, n.k ≤ 2147483647 := by
  intro n hn
  obtain ⟨m, hm, _, rfl⟩ := mem_rm hn
  split
  · rename_i e
    have : m = u := nasc_uniq ha hm hu (by rw [e, hp])
    subst this
    show m.k + 1 ≤ _; omega
  · exact h m hm
/-- a parent that has no room -/
theorem rm_full {z : Int} {ns : List Nd} {p : List UInt8} {u : Nd} (hu : u ∈ ns) (hp : u.p = dirOf p) (hne : u.p ≠ p) (hk : u.k = 2147483647) (ps : List (List UInt8)) (hps : u.p ∉ ps) : fullN (rmAll z (rmN z ns p) ps) = true :=
  full_stays ps _ ⟨bump z (-1) u, by have := rm_mem (z := z) hu hne; rwa [if_pos hp] at this, hps, by show 2147483647 < u.k + 1; omega⟩

theorem rmAll_split (z : Int) (ns : List Nd) (ps : List (List UInt8)) (k : Nat) : rmAll z ns ps = rmAll z (rmAll z ns (ps.take k)) (ps.drop k) := by
  rw [rmAll, rmAll, rmAll, ← List.foldl_append, List.take_append_drop]
theorem rmAll_next (z : Int) (ns : List Nd) {ps : List (List UInt8)} {k : Nat} {p : List UInt8} (h : ps[k]? = some p) : rmAll z ns (ps.take (k + 1)) = rmN z (rmAll z ns (ps.take k)) p := by
  rw [rmAll, List.take_add_one, h, List.foldl_append]
  rfl
theorem rmEv_next {ps : List (List UInt8)} {k : Nat} {p : List UInt8} (h : ps[k]? = some p) : rmEv (ps.take (k + 1)) = rmEv (ps.take k) ++ [⟨2, p⟩, ⟨4, dirOf p⟩] := by
  rw [rmEv, List.take_add_one, h, List.flatMap_append]
  rfl
theorem rmEv_len (ps : List (List UInt8)) : (rmEv ps).length = 2 * ps.length := by
  induction ps with
  | nil => rfl
  | cons p ps ih =>
    rw [rmEv] at ih
    simp only [rmEv, List.flatMap_cons, List.length_append, List.length_cons, List.length_nil, ih]
    omega
theorem dirOf_len (p : List UInt8) : (dirOf p).length ≤ 200 := by
  cases hgb : goodB p with
  | false => rw [dirOf_bad hgb]; simp
  | true =>
    by_cases hr : p = [47]
    · rw [hr, dirOf_root]; simp
    · obtain ⟨a, c, he, hc⟩ := good_cut hgb
      have := goodB_le hgb
      rw [he] at hgb hr this ⊢
      rw [dirOf_cut hgb hr hc, nupL]
      split
      · simp
      · simp at this; omega
theorem there_drop {cur A B : List Nd} {n u : Nd} {p q : List UInt8} (ha : NAsc cur) (T : NThere cur A n B p) (hu : u ∈ cur) (hq : u.p = q) (hne : u.p ≠ p) : ∃ A' B', NThere (A ++ B) A' u B' q := by
  have hm : u ∈ A ++ B := by rw [← T.drop, dropN]; exact List.mem_filter.2 ⟨hu, by simpa using hne⟩
  have hs : NAsc (A ++ B) := ha.sublist (by rw [T.eq]; exact (List.Sublist.refl A).append (List.sublist_cons_self n B))
  rw [← hq]
  exact there_of_look hs (look_mem hs hm)

/- what is known behind the first checks -/
theorem adm_zero {t : Tr} {x : WTxn} (h : admE t x = 0) : GoodT t ∧ gdE x = 0 ∧ t.z < x.z ∧ (x.o = 1 → x.s ∉ t.ss) ∧ (x.o ≠ 1 → x.s ∈ t.ss) := by
  unfold admE at h
  split at h
  · omega
  · rename_i h1
    split at h
    · omega
    · rename_i h2
      split at h
      · omega
      · rename_i h3
        split at h
        · omega
        · rename_i h4
          split at h
          · omega
          · rename_i h5
            refine ⟨goodT_true.1 (by simpa using h1), by omega, by omega, fun e hm => h4 ⟨e, hm⟩, fun e => ?_⟩
            by_cases hm : x.s ∈ t.ss
            · exact hm
            · exact absurd ⟨e, hm⟩ h5
theorem app_zero {t : Tr} {x : WTxn} (h : appE t x = 0) : admE t x = 0 ∧ chgE t x = 0 ∧ fullN (chgN t x) = false := by
  unfold appE at h
  split at h
  · rename_i h1; exact absurd h h1
  · rename_i h1
    split at h
    · rename_i h2; exact absurd h h2
    · rename_i h2
      split at h
      · omega
      · rename_i h3; exact ⟨by omega, by omega, by simpa using h3⟩
theorem cre_zero {t : Tr} {x : WTxn} (h : creE t x = 0) : lookN t.ns x.p = none ∧ (∃ u, lookN t.ns (dirOf x.p) = some u ∧ u.o = 0) ∧ (x.w = 0 ∨ x.w = x.s) ∧ t.ns.length ≠ 400 := by
  unfold creE at h
  split at h
  · omega
  · rename_i h1
    split at h
    · omega
    · rename_i u hu
      split at h
      · omega
      · rename_i h2
        split at h
        · omega
        · rename_i h3
          split at h
          · omega
          · rename_i h4
            refine ⟨by simpa using h1, ⟨u, hu, by omega⟩, ?_, h4⟩
            by_cases e : x.w = 0
            · exact .inl e
            · by_cases e' : x.w = x.s
              · exact .inr e'
              · exact absurd ⟨e, e'⟩ h3
theorem del_zero {t : Tr} {x : WTxn} (h : delE t x = 0) : ∃ n, lookN t.ns x.p = some n ∧ n.n = 0 := by
  unfold delE at h
  split at h
  · omega
  · rename_i n hn
    split at h
    · omega
    · exact ⟨n, hn, by omega⟩
theorem set_zero {t : Tr} {x : WTxn} (h : setE t x = 0) : ∃ n, lookN t.ns x.p = some n ∧ x.v = n.v + 1 := by
  unfold setE at h
  split at h
  · omega
  · rename_i n hn
    split at h
    · omega
    · exact ⟨n, hn, by omega⟩
structure Fine (x : WTxn) : Prop where
  op : 1 ≤ x.o ∧ x.o ≤ 5
  z : 0 ≤ x.z ∧ zGood x.z = true
  s : 1 ≤ x.s ∧ x.s ≤ 2147483647
  v : 0 ≤ x.v ∧ x.v ≤ 2147483647
  w : 0 ≤ x.w ∧ x.w ≤ 2147483647
  d : x.d.length ≤ 256
  path : x.o = 3 ∨ x.o = 4 → goodB x.p = true ∧ x.p ≠ [47]
  path5 : x.o = 5 → goodB x.p = true
  data : x.o ≠ 3 → x.o ≠ 5 → x.d = []

end Go.Proofs.YtaoflcmeiaffjaaGreatDoor

namespace Go.Proofs.YtaoflcmeiaffjaaGreatDoor
open Go.RowKit

theorem nclone_any (s : List UInt8) (w : World) (hs : s.length ≤ 281474976710656) :
    Calls Tryz.prog 83 #[.string ⟨s.toArray⟩] w fun e w' => e = .returned (.string ⟨s.toArray⟩) ∧ Below w.heap.size w w' := clone_any ⟨s.toArray⟩ w hs
theorem OneR.cellN {W : World} {b : Nat} {n : Nd} (h : OneR W b n) (j : Nat) (v : Value) (hj : (ncells n)[j]? = some v) : W.cell? ⟨b, j, none⟩ = some v := by
  have := h.row j v hj
  rwa [Nat.zero_add] at this
theorem OneR.frozenN {W : World} {b : Nat} {n : Nd} (h : OneR W b n) (j : Nat) : W.frozen? ⟨b, j, none⟩ = false := by
  unfold OneR at h
  simp [World.frozen?, h]
theorem OneR.keptN {W V : World} {b : Nat} {n : Nd} (h : OneR W b n) (hb : Below W.heap.size W V) : OneR V b n := by
  unfold OneR at h ⊢
  exact (hb.block _ (Array.getElem?_eq_some_iff.1 h).1).trans h
def nzero : Nd := ⟨[], [], 0, 0, 0, 0, 0, 0, 0⟩

set_option maxRecDepth 20000 in
set_option maxHeartbeats 1000000 in
theorem tcopied_any (n : Nd) (w : World) (hp : n.p.length ≤ 140737488355328) (hd : n.d.length ≤ 140737488355328) :
    Calls Tryz.prog 149 #[nodeV n] w fun e w' => e = .returned (nodeV n) ∧ Below w.heap.size w w' := by
  have C1 := fun W => nclone_any n.p W (by omega)
  have C2 := fun W => nclone_any n.d W (by omega)
  have X0 : ∀ W, W = (w.alloc (.cells (ncells n).toArray 97)).alloc (.cells (ncells nzero).toArray 97) → OneR W w.heap.size n ∧ OneR W (w.heap.size + 1) nzero ∧ Below w.heap.size w W := by
    rintro W rfl
    refine ⟨?_, ?_, ((Below.refl _ _).alloc (Nat.le_refl _) _).alloc (by simp) _⟩
    · unfold OneR
      exact (((Below.refl (w.heap.size + 1) (w.alloc (.cells (ncells n).toArray 97))).alloc (by simp) (.cells (ncells nzero).toArray 97)).block _ (by omega)).trans (heap_alloc_new w _)
    · have := heap_alloc_new (w.alloc (.cells (ncells n).toArray 97)) (.cells (ncells nzero).toArray 97)
      rw [show (w.alloc (.cells (ncells n).toArray 97)).heap.size = w.heap.size + 1 by simp] at this
      exact this
  have X := hide X0
  clear X0
  unfold nodeV
  go_enter Tryz.func149, Tryz.ntmps149
  go_wp2_with fail
  generalize hW0 : (w.alloc _).alloc _ = W0
  obtain ⟨x1, x2, x3⟩ := unhide X W0 hW0.symm
  clear hW0 X
  refine (C1 _).mono ?_
  rintro e w1 ⟨rfl, hb1⟩
  have y1 := x1.keptN hb1
  have e0 := y1.cellN 0 _ rfl
  have e1 := y1.cellN 1 _ rfl
  have f0 := y1.frozenN 0
  have hs0 := nset_same e0
  have Y1 := hide y1
  have Y2 := hide (x2.keptN hb1)
  have B1 := hide (nnext x3 hb1)
  clear y1 x1 x2 x3 hb1 C1
  go_wp2_with fail
  refine (C2 _).mono ?_
  rintro e w2 ⟨rfl, hb2⟩
  have y1 := (unhide Y1).keptN hb2
  have y2 := (unhide Y2).keptN hb2
  have B2 := hide (nnext (unhide B1) hb2)
  clear e0 e1 f0 hs0 C2 hb2 Y1 Y2
  have c0 := y1.cellN 0 _ rfl
  have c1 := y1.cellN 1 _ rfl
  have c2 := y1.cellN 2 _ rfl
  have c3 := y1.cellN 3 _ rfl
  have c4 := y1.cellN 4 _ rfl
  have c5 := y1.cellN 5 _ rfl
  have c6 := y1.cellN 6 _ rfl
  have c7 := y1.cellN 7 _ rfl
  have c8 := y1.cellN 8 _ rfl
  have d0 := y2.cellN 0 _ rfl
  have d1 := y2.cellN 1 _ rfl
  have d2 := y2.cellN 2 _ rfl
  have d3 := y2.cellN 3 _ rfl
  have d4 := y2.cellN 4 _ rfl
  have d5 := y2.cellN 5 _ rfl
  have d6 := y2.cellN 6 _ rfl
  have d7 := y2.cellN 7 _ rfl
  have d8 := y2.cellN 8 _ rfl
  have f1 := y1.frozenN 1
  have g0 := y2.frozenN 0
  have g1 := y2.frozenN 1
  have g2 := y2.frozenN 2
  have g3 := y2.frozenN 3
  have g4 := y2.frozenN 4
  have g5 := y2.frozenN 5
  have g6 := y2.frozenN 6
  have g7 := y2.frozenN 7
  have g8 := y2.frozenN 8
  have hs1 := nset_same c1
  have hne : w.heap.size ≠ w.heap.size + 1 := by omega
  clear y1 y2
  go_wp2_with fail
  have BB := unhide B2
  exact bodyPost_ret (v := nodeV n) (by simp [results, Tryz.results149, go_sem, nodeV, d0, d1, d2, d3, d4, d5, d6, d7, d8]) rfl
    ⟨rfl, ((((((((BB.setCell (by simp) _).setCell (by simp) _).setCell (by simp) _).setCell (by simp) _).setCell (by simp) _).setCell (by simp) _).setCell (by simp) _).setCell (by simp) _).setCell (by simp) _⟩

end Go.Proofs.YtaoflcmeiaffjaaGreatDoor
