/-
  What disk.Sync, disk.Cut and disk.Remove say where there is no such file, and what Sync and Cut answer else: the walks.
  What slices.Delete of one file and disk.Remove answer: the walks.
  What slices.Insert of one file answers, into a row of the call's own: the walks.
-/
import Derived.Test.YtoacignhobchbaaGreatDoorSUR
import Derived.Deep.RegionWith
import Derived.Deep.RegionLaw
import Derived.Lib.AppendZerosOnto
import Derived.Lib.Overlaps
import Derived.Laws.Externs
namespace Go.Proofs.YtoacignhobchbaaGreatDoor
open Go.RowKit

/-- two boxes that a call has laid first: its disk's and its result's -/
structure Boxes (w W : World) (v : Value) : Prop where
  below : Below w.heap.size w W
  size : w.heap.size + 2 ≤ W.heap.size
  cd : W.cell? ⟨w.heap.size, 0, none⟩ = some v
  cr : W.cell? ⟨w.heap.size + 1, 0, none⟩ = some (.slice none 0 0)
  fr : W.frozen? ⟨w.heap.size + 1, 0, none⟩ = false
theorem Boxes.next {w W V : World} {v : Value} (h : Boxes w W v) (hb : Below W.heap.size W V) : Boxes w V v :=
  ⟨dbelow_next h.below hb, Nat.le_trans h.size hb.size, by rw [hb.cell (p := ⟨w.heap.size, 0, none⟩) (by have := h.size; show w.heap.size < _; omega)]; exact h.cd,
    by rw [hb.cell (p := ⟨w.heap.size + 1, 0, none⟩) (by have := h.size; show w.heap.size + 1 < _; omega)]; exact h.cr, by rw [hb.frozen (p := ⟨w.heap.size + 1, 0, none⟩) (by have := h.size; show w.heap.size + 1 < _; omega)]; exact h.fr⟩
theorem Boxes.grown {w W V : World} {v : Value} {g : Nat} (h : Boxes w W v) (hg : W.grownBy V (some g)) (hl : w.heap.size + 2 ≤ g) : Boxes w V v := by
  have hs := h.size
  have b0 : V.heap[w.heap.size]? = W.heap[w.heap.size]? := hg.block _ (by omega) (fun e => by cases e; omega)
  have b1 : V.heap[w.heap.size + 1]? = W.heap[w.heap.size + 1]? := hg.block _ (by omega) (fun e => by cases e; omega)
  exact ⟨h.below.grown hg (by omega) (fun k e => by cases e; omega), Nat.le_trans h.size hg.size, (World.cell?_of_block b0).trans h.cd, (World.cell?_of_block b1).trans h.cr, (World.frozen?_of_block b1).trans h.fr⟩
theorem Boxes.start (w : World) (v : Value) (t t' : TypeId) : Boxes w ((w.alloc (.cells #[v] t)).alloc (.cells #[.slice none 0 0] t')) v :=
  ⟨((Below.refl _ _).alloc (Nat.le_refl _) _).alloc (by simp) _, by simp, by simp, by simp, by simp⟩
theorem Boxes.alloc {w W : World} {v : Value} (h : Boxes w W v) (o : Obj) : Boxes w (W.alloc o) v := h.next ((Below.refl _ _).alloc (Nat.le_refl _) o)
theorem below_drew {W V : World} (h : Below W.drew.heap.size W.drew V) : Below W.heap.size W V := ((Below.refl _ W).drew).trans h

theorem own_some {W : World} {B : Nat} {v : Value} {fs : List DF} (h : OwnV W B v fs) {k : Nat} (hk : k < fs.length) : ∃ g cap, v = .slice (some ⟨g, 0, none⟩) fs.length cap ∧ B ≤ g ∧ Own W g cap fs := by
  rcases h with ⟨rfl, rfl⟩ | h
  · simp at hk
  · exact h

set_option maxRecDepth 10000 in
set_option maxHeartbeats 1000000 in
theorem sync_there (v : Value) (fs A B : List DF) (f : DF) (name : List UInt8) (w : World) (hv : DiskV w v fs) (hs : Slim fs) (g : GoodD fs) (T : There fs A f B name) :
    Calls Tryz.prog 105 #[.agg #[v], .string ⟨name.toArray⟩] w fun e w' => ∃ v', e = .returned (.tuple #[.agg #[v'], .int .i64 0]) ∧ OwnV w' w.heap.size v' (A ++ ⟨f.n, f.s ++ f.t, []⟩ :: B) ∧ Below w.heap.size w w' := by
  have C := fun W (hW : Below w.heap.size w W) => locate_there _ fs A B f name W (hv.next hW) hs g T
  have CC := fun W (hW : Below w.heap.size w W) => copied_any _ fs W (hv.next hW) hs g.few
  obtain ⟨b, off, cap, rfl, hb, hr, hk, hlt⟩ := there_row hv T
  have hfl := fileOk_len (T.ok g)
  have HR := hide hr
  have HK := hide hk
  have HT := hide T.eq
  have hb0 : b ≠ w.heap.size := by omega
  have hlti : (A.length : Int) < (fs.length : Int) := by omega
  have CS := fun W => dsize_any f W (by omega)
  have CT := fun (g c : Nat) (W : World) (ho : Own W g c fs) => settle_any g c A.length fs f (f.s.length + f.t.length) W ho hk (by omega) hfl
  have hset : fs.set A.length ⟨f.n, (f.s ++ f.t).take (f.s.length + f.t.length), []⟩ = A ++ ⟨f.n, f.s ++ f.t, []⟩ :: B := by rw [T.eq]; simp [List.take_of_length_le]
  have hsl : fs.length = (A ++ ⟨f.n, f.s ++ f.t, []⟩ :: B).length := by rw [T.eq]; simp
  rw [hset] at CT
  obtain ⟨fs', hfs'⟩ : ∃ x, A ++ ⟨f.n, f.s ++ f.t, []⟩ :: B = x := ⟨_, rfl⟩
  rw [hfs'] at CT hsl ⊢
  have HSL := hide hsl
  obtain ⟨L, hL⟩ : ∃ L, f.s.length + f.t.length = L := ⟨_, rfl⟩
  rw [hL] at CS hfl CT
  clear hv hs g T hr hk hset hfs' hsl hL HT
  go_enter Tryz.func105, Tryz.ntmps105
  go_wp2_with fail
  have X := Boxes.start w (.slice (some ⟨b, off, none⟩) fs.length cap) 28 28
  generalize (w.alloc (.cells #[.slice (some ⟨b, off, none⟩) fs.length cap] 28)).alloc (.cells #[.slice none 0 0] 28) = w0 at *
  refine (C _ X.below).mono ?_
  rintro e w1 ⟨rfl, hb1⟩
  have X1 := X.next hb1
  have HX := hide X1
  have cd := X1.cd
  have r := (unhide HR).kept X1.below hb
  have e0 := r.c0 (unhide HK)
  have e1 := r.c1 (unhide HK)
  have e2 := r.c2 (unhide HK)
  clear C hb1 r X X1
  go_wp2_with fail
  refine (CC _ (unhide HX).below).mono ?_
  rintro e w2 ⟨v', rfl, ho, hb2⟩
  obtain ⟨g, cap2, rfl, hg, ho⟩ := own_some ho hlt
  have hgl := ho.lt
  have hg2 : w.heap.size + 2 ≤ g := by have := (unhide HX).size; omega
  have X2 := ((unhide HX).next hb2).alloc (.cells #[.slice (some ⟨g, 0, none⟩) fs.length cap2] 28)
  have ho2 := ho.alloc (.cells #[.slice (some ⟨g, 0, none⟩) fs.length cap2] 28)
  have ca : (w2.alloc (.cells #[.slice (some ⟨g, 0, none⟩) fs.length cap2] 28)).cell? ⟨w2.heap.size, 0, none⟩ = some (.slice (some ⟨g, 0, none⟩) fs.length cap2) := by simp
  have haz : w2.heap.size < (w2.alloc (.cells #[.slice (some ⟨g, 0, none⟩) fs.length cap2] 28)).heap.size := by simp
  clear CC hb2 ho HX cd e0 e1 e2
  go_wp2_with fail
  generalize w2.alloc (.cells #[.slice (some ⟨g, 0, none⟩) fs.length cap2] 28) = W at *
  have HX := hide X2
  have HO := hide ho2
  have cd := X2.cd
  have r := (unhide HR).kept X2.below hb
  have e0 := r.c0 (unhide HK)
  have e1 := r.c1 (unhide HK)
  have e2 := r.c2 (unhide HK)
  clear r X2 ho2
  go_region_with (first
    | (go_at_call 94; refine (CS _).mono ?_; rintro e w3 ⟨rfl, hb3⟩; have ca3 : w3.cell? ⟨w2.heap.size, 0, none⟩ = some (.slice (some ⟨g, 0, none⟩) fs.length cap2) := (hb3.cell (p := ⟨w2.heap.size, 0, none⟩) haz).trans ca)
    | (go_at_call 100; refine (CT g cap2 w3 ((unhide HO).next (below_drew hb3))).mono ?_; rintro e w4 ⟨rfl, ho4, hg4⟩))
  all_goals
    have X4 := ((unhide HX).next (below_drew hb3)).grown hg4 hg2
    have ca4 : w4.cell? ⟨w2.heap.size, 0, none⟩ = some (.slice (some ⟨g, 0, none⟩) fs.length cap2) := hg4.cell ca3 (fun e => by have e3 : w2.heap.size = g := Option.some.inj e; omega)
    have cr := X4.cr
    have fr := X4.fr
    have HB := hide X4.below
    have HO4 := hide ho4
    clear X4 ho4 hg4
    clear CS CT
    go_wp2_with fail
    refine bodyPost_ret (v := .tuple #[.agg #[.slice (some ⟨g, 0, none⟩) fs.length cap2], .int .i64 0]) (by simp [results, Tryz.results105, go_sem, cr]) rfl ⟨_, rfl, .inr ⟨g, cap2, by rw [unhide HSL], by omega, (unhide HO4).other (by show g ≠ w.heap.size + 1; omega) _⟩, (unhide HB).setCell (by simp) _⟩

end Go.Proofs.YtoacignhobchbaaGreatDoor

namespace Go.Proofs.YtoacignhobchbaaGreatDoor
open Go.RowKit
theorem Own.some {W : World} {g cap : Nat} {fs : List DF} (h : Own W g cap fs) {j : Nat} (hj : j < cap * 3) : (W.cell? ⟨g, j, none⟩).isSome = true := by
  obtain ⟨rest, h1, h2, _⟩ := h
  have hl : j < (cellsF fs ++ rest).length := by rw [List.length_append, cellsF_length, h2]; exact hj
  rw [List.length_append] at hl
  simp [World.cell?, h1, hl]

end Go.Proofs.YtoacignhobchbaaGreatDoor

namespace Go.Proofs.YtoacignhobchbaaGreatDoor
open Go.RowKit

theorem run_copy3 (w : World) (ty : TypeId) (b o dLen dCap : Nat) (a : Addr) (sLen sCap : Nat) (cs : List Value) (hn : cs.length = Nat.min sLen dLen * 3)
    (hsrc : ∀ j v, cs[j]? = some v → w.cell? (a.add j) = some v) (hc : ∀ j, j < cs.length → (w.cell? ⟨b, o + j, none⟩).isSome = true) (hf : ∀ j, j < cs.length → w.frozen? ⟨b, o + j, none⟩ = false) (h1 : ∀ v ∈ cs, v.oneCell' = true) :
    (Builtin.copy_ #[26, 26] ty #[.slice (some ⟨b, o, none⟩) dLen dCap, .slice (some a) sLen sCap]).run Tryz.prog w = .ok (goInt (Nat.min sLen dLen)) (w.setCells b o cs) := by
  have hl := run_loadCells_list (P := Tryz.prog) w a cs hsrc
  have hst := run_storeCells_cells (P := Tryz.prog) b o cs 0 w (by simpa using hc) (by simpa using hf) h1
  obtain ⟨i0, hi0, hz0, hz1, hz2⟩ := info_file
  simp [Builtin.copy_, run_underlying Tryz.underlying26, Builtin.lenOf, Builtin.firstCells, sizeOf, typeInfo, hi0, hz1, ← hn, hl, hst]

theorem wp_copy_run1 (w : World) {o : Oper} {a : Act} {K : Act → World → Prop} {Q : Exit → Act → World → Prop} (d s : Operand) (t t' : TypeId)
    (ho : o.op = .call { callee := .builtin .copy, args := #[d, s], argTypes := #[t, t'] }) (v u : Value) (hd : a.eval d = v) (hs : a.eval s = u) {v' : Value} {w' : World}
    (hr : (Builtin.copy_ #[t, t'] o.type #[v, u]).run Tryz.prog w = .ok v' w') (h : K (a.put o.dst v') w') : o.wp Tryz.prog a w K Q := by
  unfold Oper.wp execOp
  simp only [ho, resolve, invoke, builtin, Sem.run_bind, Sem.run_pure, Result.andThen_ok, List.map_toArray, List.map_cons, List.map_nil, hd, hs, hr]
  exact h
theorem wpList_copy_run1 (w : World) {ops : Array Oper} {rest : List Oper} {o : Oper} {a : Act} {Q : Exit → Act → World → Prop} (hgd : o.guard = none) (d s : Operand) (t t' : TypeId)
    (ho : o.op = .call { callee := .builtin .copy, args := #[d, s], argTypes := #[t, t'] }) (v u : Value) (hd : a.eval d = v) (hs : a.eval s = u) {v' : Value} {w' : World}
    (hr : (Builtin.copy_ #[t, t'] o.type #[v, u]).run Tryz.prog w = .ok v' w') (h : wpList Tryz.prog ops Q rest (a.put o.dst v') w') : wpList Tryz.prog ops Q (o :: rest) a w :=
  wpList_plain hgd fun _ hK => wp_copy_run1 w d s t t' ho v u hd hs hr (hK _ _ h)
theorem step_copy_run1 {ops : Array Oper} {o : Oper} {a : Act} {w : World} {K : Act → World → Prop} {Q : Exit → Act → World → Prop} {E : Prop}
    (hg : o.guard = none) (d x : Operand) (dT sT : TypeId) (hop : o.op = Op.call { callee := Callee.builtin Builtin.copy, args := #[d, x], argTypes := #[dT, sT] })
    (v u : Value) (hd : a.eval d = v) (hx : a.eval x = u) {v' : Value} {w' : World} (hr : (Builtin.copy_ #[dT, sT] o.type #[v, u]).run Tryz.prog w = .ok v' w') (hK : K (a.put o.dst v') w') :
    if Region.wanted o (yielded ops a.tmps) = true then Oper.wp Tryz.prog o a w K Q else E := by
  have hw : Region.wanted o (yielded ops a.tmps) = true := by simp [Region.wanted, hg]
  rw [if_pos hw]
  unfold Oper.wp
  simp [execOp, hop, resolve, invoke, builtin, hd, hx, hr, Result.andThen]
  exact hK

/-- block b holds just this file -/
def One (W : World) (b : Nat) (x : DF) : Prop := W.heap[b]? = some (.cells (fcells x).toArray 87 (0, 0))
theorem One.row {W : World} {b : Nat} {x : DF} (h : One W b x) : ∀ j v, (fcells x)[j]? = some v → W.cell? ⟨b, 0 + j, none⟩ = some v := by
  intro j v hj
  unfold One at h
  have : (fcells x).toArray[j]? = some v := by simpa using hj
  simp [World.cell?, h, hj]
theorem fcells_one (x : DF) : ∀ u ∈ fcells x, u.oneCell' = true := by
  intro u h
  simp [fcells] at h
  rcases h with rfl | rfl | rfl <;> rfl

set_option maxRecDepth 10000 in
set_option maxHeartbeats 1000000 in
/-- at the end -/
theorem sinsert_end (v : Value) (A : List DF) (x : DF) (B b : Nat) (w : World) (ho : OwnV w B v A) (hB : B ≤ w.heap.size) (hl : A.length ≤ 16) (h1 : One w b x) :
    Calls Tryz.prog 96 #[v, .int .i64 A.length, .slice (some ⟨b, 0, none⟩) 1 1] w fun e w' =>
      ∃ v', e = .returned v' ∧ OwnV w' B v' (A ++ [x]) ∧ w.grownBy w' v.ownBlock := by
  obtain ⟨i0, hi0, hz0, hz1, hz2⟩ := info_file
  have hrow := ho.row
  have HR := hide hrow
  have H1 := hide h1.row
  have V : ∃ a c, v = .slice a A.length c ∧ A.length ≤ c := by
    rcases ho with ⟨rfl, rfl⟩ | ⟨g, cap, rfl, _, h⟩
    · exact ⟨none, 0, rfl, Nat.le_refl _⟩
    · exact ⟨_, cap, rfl, h.le⟩
  obtain ⟨a, c, rfl, hc⟩ := V
  clear ho hrow h1
  rcases Nat.lt_or_ge A.length c with hcl | hcl
  · have hne : ¬ c = A.length := by omega
    go_enter Tryz.func96, Tryz.ntmps96
    go_wp2_with (at_builtin; refine wpList_append_own _ rfl _ _ 26 rfl B 87 i0 _ 3 48 Tryz.underlying26 hi0 hz0 hz1 hz2 rfl (by decide) _ A.length (cellsF A) rfl (unhide HR) ⟨b, 0, none⟩ 1 1 (fcells x) rfl (by rfl) ?qc2 (fcells_one x) ?qc4 ?qc5 hB ?_)
    case qc2 =>
      intro j u hj
      rw [Addr.add_lit]
      exact unhide H1 j u hj
    case qc4 => simp only [maxLen]; omega
    case qc5 => omega
    intro v' w1 hown hgrow _
    go_wp2
    go_ret
    exact ⟨v', rfl, OwnV.of_row (by rw [List.length_append, cellsF_append]; simpa [cellsF] using hown), hgrow⟩
  · obtain rfl : c = A.length := by omega
    go_enter Tryz.func96, Tryz.ntmps96
    go_wp2_with (at_builtin; refine wpList_append_own _ rfl _ _ 26 rfl B 87 i0 _ 3 48 Tryz.underlying26 hi0 hz0 hz1 hz2 rfl (by decide) _ A.length (cellsF A) rfl (unhide HR) ⟨b, 0, none⟩ 1 1 (fcells x) rfl (by rfl) ?qc2 (fcells_one x) ?qc4 ?qc5 hB ?_)
    case qc2 =>
      intro j u hj
      rw [Addr.add_lit]
      exact unhide H1 j u hj
    case qc4 => simp only [maxLen]; omega
    case qc5 => omega
    intro v' w1 hown hgrow _
    go_wp2
    go_ret
    exact ⟨v', rfl, OwnV.of_row (by rw [List.length_append, cellsF_append]; simpa [cellsF] using hown), hgrow⟩

set_option maxRecDepth 10000 in
set_option maxHeartbeats 2000000 in
/-- there is room -/
theorem sinsert_shift (g cap : Nat) (A R : List DF) (y x : DF) (n b : Nat) (w : World) (ho : Own w g cap (A ++ y :: R)) (hn : n = A.length + R.length + 1) (hsm : n ≤ 16) (hroom : n + 1 ≤ cap) (h1 : One w b x) (hbg : b ≠ g) :
    Calls Tryz.prog 96 #[.slice (some ⟨g, 0, none⟩) n cap, .int .i64 A.length, .slice (some ⟨b, 0, none⟩) 1 1] w fun e w' =>
      e = .returned (.slice (some ⟨g, 0, none⟩) (n + 1) cap) ∧ Own w' g cap (A ++ x :: y :: R) ∧ w.grownBy w' (some g) := by
  have hcl := ho.capLe
  simp only [maxLen] at hcl
  have hrow := ho.row
  have hshg : w.shape? g = some (87, cap * 3) := by
    obtain ⟨rest, q1, q2, _⟩ := ho
    rw [List.length_append, List.length_cons] at q2
    simp [World.shape?, q1, cellsF_length, q2]
  have hshb : w.shape? b = some (87, 3) := by unfold One at h1; simp [World.shape?, h1, fcells]
  have hfb : ∀ j, w.frozen? ⟨b, j, none⟩ = false := fun j => by unfold One at h1; simp [World.frozen?, h1]
  have hov : ∀ lb cb, (callFunc 124 #[.slice (some ⟨b, 0, none⟩) 1 1, .slice (some ⟨g, (A.length + 1) * 3, none⟩) lb cb]).run Tryz.prog w = .ok (.value (.bool false)) w := fun lb cb => by
    rw [run_callFunc_extern Tryz.func124 (by kernel_rfl) (by kernel_rfl) (by kernel_rfl) (e := Extern.SlicesOverlaps.overlaps #[26, 26] #[4]) (by kernel_rfl),
      Lib.run_overlaps_apart w 26 4 87 Tryz.underlying26 3 Tryz.sizeOf87 ⟨b, 0, none⟩ ⟨g, (A.length + 1) * 3, none⟩ 1 1 lb cb hbg 87 87 3 (cap * 3) hshb hshg (by omega) (hfb 0) (hfb 3)]
    rfl
  obtain ⟨W1, hW1⟩ : ∃ W1, W1 = w.drew.setCells g ((A.length + 1) * 3) (cellsF (y :: R)) := ⟨_, rfl⟩
  have ho1 : Own W1 g cap (A ++ y :: y :: R) := by
    have h : Own w.drew g cap ((A ++ [y]) ++ R) := by rw [List.append_assoc]; exact ho
    have := h.splice (y :: R) (by simp; omega)
    rw [hW1]
    simpa using this
  have hg1 : w.grownBy W1 (some g) := by rw [hW1]; have := grown_setCells (g := g) (cellsF (y :: R)) ((A.length + 1) * 3) w.drew; exact ⟨this.os, this.tape, this.output, this.size, this.block⟩
  have hcp1 : ∀ ty dc sc, (Builtin.copy_ #[26, 26] ty #[.slice (some ⟨g, (A.length + 1) * 3, none⟩) (n - A.length) dc, .slice (some ⟨g, A.length * 3, none⟩) (n + 1 - A.length) sc]).run Tryz.prog w.drew = .ok (goInt (Nat.min (n + 1 - A.length) (n - A.length))) W1 := fun ty dc sc => by
    rw [hW1]
    exact run_copy3 w.drew ty g _ _ dc ⟨g, A.length * 3, none⟩ _ sc (cellsF (y :: R)) (by rw [cellsF_length]; simp only [Nat.min_def, List.length_cons]; split <;> omega)
      (fun j v hj => by
        rw [Addr.add_lit]
        have := hrow (A.length * 3 + j) v (by rw [cellsF_append, List.getElem?_append_right (by rw [cellsF_length]; omega), cellsF_length, Nat.add_sub_cancel_left]; exact hj)
        rw [Nat.zero_add] at this
        exact this)
      (fun j hj => by rw [cellsF_length] at hj; exact ho.some (by simp at hj; omega)) (fun j _ => ho.frozen _) (cellsF_one _)
  have hcp2 : ∀ ty dc, (Builtin.copy_ #[26, 26] ty #[.slice (some ⟨g, A.length * 3, none⟩) (n + 1 - A.length) dc, .slice (some ⟨b, 0, none⟩) 1 1]).run Tryz.prog W1 = .ok (goInt (Nat.min 1 (n + 1 - A.length))) (W1.setCells g (A.length * 3) (fcells x)) := fun ty dc =>
    run_copy3 W1 ty g _ _ dc ⟨b, 0, none⟩ 1 1 (fcells x) (by simp only [Nat.min_def, fcells, List.length_cons, List.length_nil]; split <;> omega)
      (fun j v hj => by
        rw [Addr.add_lit]
        have hb2 : W1.heap[b]? = w.heap[b]? := hg1.block b (by unfold One at h1; exact (Array.getElem?_eq_some_iff.1 h1).1) (fun e => hbg (Option.some.inj e))
        have h2 : One W1 b x := hb2.trans h1
        exact h2.row j v hj)
      (fun j hj => ho1.some (by simp [fcells] at hj; omega)) (fun j _ => ho1.frozen _) (fcells_one x)
  have FIN : Hid (Own (W1.setCells g (A.length * 3) (fcells x)) g cap (A ++ x :: y :: R) ∧ w.grownBy (W1.setCells g (A.length * 3) (fcells x)) (some g)) :=
    ⟨ho1.swap1 x, grown_trans hg1 (grown_setCells _ _ _)⟩
  have hin : A.length < n := by omega
  have hini : (A.length : Int) < (n : Int) := by omega
  have hw1 : IntKind.i64.wrap ((A.length : Int) + 1) = (A.length : Int) + 1 := by rw [IntKind.wrap_i64]; omega
  have hb1 : (0 : Int) ≤ (A.length : Int) + 1 := by omega
  have hb2 : ¬ (cap = A.length + 1) := by omega
  have hb3 : (A.length : Int) ≤ (n : Int) + 1 := by omega
  have hb4 : ¬ (cap = A.length) := by omega
  have hb5 : (A.length : Int) + 1 ≤ (n : Int) + 1 := by omega
  have hb6 : ¬ ((cap : Int) < (n : Int) + 1) := by omega
  have hz2 : ¬ ((A.length : Int) = (n : Int)) := by omega
  have htn : ((A.length : Int) + 1).toNat = A.length + 1 := by omega
  clear hW1 ho1 hg1 hrow hshg hshb hfb ho h1 hn
  go_enter Tryz.func96, Tryz.ntmps96
  go_wp2_with (simp only [hov])
  go_region_law (refine step_copy_run1 rfl (.tmp 73) (.tmp 76) 26 26 rfl (.slice (some ⟨g, (A.length + 1) * 3, none⟩) (n - A.length) (cap - (A.length + 1))) (.slice (some ⟨g, A.length * 3, none⟩) (n + 1 - A.length) (cap - A.length)) (by simp [Act.eval, Act.put]) (by simp [Act.eval, Act.put]) (hcp1 _ _ _) ?_)
  go_wp2_with (at_builtin; refine wpList_copy_run1 _ rfl _ _ 26 26 rfl _ _ rfl rfl (hcp2 _ _) ?_)
  go_ret
  exact ⟨rfl, FIN.out⟩

theorem zero_cells3 (k : Nat) : (Builtin.zeroCells (Value.agg #[.string ⟨#[]⟩, .string ⟨#[]⟩, .string ⟨#[]⟩]).cells k).size = k * 3 := by
  simp [Builtin.zeroCells, Value.cells]

set_option maxRecDepth 10000 in
set_option maxHeartbeats 2000000 in
/-- there is no room -/
theorem sinsert_grow (g cap : Nat) (A R : List DF) (y x : DF) (n b : Nat) (w : World) (ho : Own w g cap (A ++ y :: R)) (hn : n = A.length + R.length + 1) (hsm : n ≤ 16) (hroom : cap < n + 1) (h1 : One w b x) :
    Calls Tryz.prog 96 #[.slice (some ⟨g, 0, none⟩) n cap, .int .i64 A.length, .slice (some ⟨b, 0, none⟩) 1 1] w fun e w' =>
      ∃ cap', e = .returned (.slice (some ⟨w.heap.size, 0, none⟩) (n + 1) cap') ∧ Own w' w.heap.size cap' (A ++ x :: y :: R) ∧ Below w.heap.size w w' := by
  have hcap : cap = n := by have := ho.le; simp at this; omega
  obtain ⟨i0, hi0, hz0, hz1, hz2⟩ := info_file
  have hrow := ho.row
  have hgw := ho.lt
  have hbw : b < w.heap.size := by unfold One at h1; exact (Array.getElem?_eq_some_iff.1 h1).1
  have hold : (Builtin.firstCells i0.size A.length (.slice (some ⟨g, 0, none⟩) A.length cap)).run Tryz.prog w.drew = .ok (cellsF A).toArray w.drew := by
    rw [hz1]
    exact run_firstCells_some w.drew 3 A.length ⟨g, 0, none⟩ A.length cap (cellsF A) (cellsF_length A) (fun j v hj => by
      rw [Addr.add_lit]
      exact hrow j v (by rw [cellsF_append, List.getElem?_append_left (List.getElem?_eq_some_iff.1 hj).1]; exact hj))
  obtain ⟨G, hG⟩ : ∃ G, G = grownCap w (n + 1) cap 87 := ⟨_, rfl⟩
  have hGn : n + 1 ≤ G := by rw [hG]; exact grownCap_ge w _ _ _
  have hGm : G ≤ maxLen := by rw [hG]; exact grownCap_le_maxLen w (n + 1) cap _ (by unfold maxLen; omega)
  have hG63 : G ≤ 9223372036854775807 := by have := hGm; unfold maxLen at this; omega
  obtain ⟨ROW, hROW⟩ : ∃ ROW : Array Value, ROW = (cellsF A).toArray ++ Builtin.zeroCells (Value.agg #[.string ⟨#[]⟩, .string ⟨#[]⟩, .string ⟨#[]⟩]).cells (n + 1 - A.length) ++ Builtin.zeroCells (Value.agg #[.string ⟨#[]⟩, .string ⟨#[]⟩, .string ⟨#[]⟩]).cells (G - (n + 1)) := ⟨_, rfl⟩
  obtain ⟨W1, hW1⟩ : ∃ W1, W1 = w.drew.alloc (.cells ROW 87) := ⟨_, rfl⟩
  have hik : A.length + (n + 1 - A.length) = n + 1 := by omega
  have hrz : ∀ ty, (Builtin.append_ #[26, 3] ty #[.slice (some ⟨g, 0, none⟩) A.length cap, .int .i64 ((n : Int) + 1 - (A.length : Int))]).run Tryz.prog w =
      .ok (.slice (some ⟨w.heap.size, 0, none⟩) (n + 1) G) W1 := fun ty => by
    have h := Lib.run_append_grow_zeros w 26 3 ty 87 i0 _ .i64 .i64 Tryz.underlying26 Tryz.underlying3 hi0 hz0 (some ⟨g, 0, none⟩) A.length cap (cellsF A) hold (n + 1 - A.length) (by omega) (by omega) (by omega) (by omega) (by rw [hz2]; omega) (by rw [hz2, hik]; exact growslice_fits hroom (by omega))
    rw [hik, ← hG, ← hROW, ← hW1] at h
    rw [show (n : Int) + 1 - (A.length : Int) = ((n + 1 - A.length : Nat) : Int) by omega]
    exact h
  have ho1 : Own W1 w.heap.size G A := by
    refine ⟨(Builtin.zeroCells (Value.agg #[.string ⟨#[]⟩, .string ⟨#[]⟩, .string ⟨#[]⟩]).cells (n + 1 - A.length) ++ Builtin.zeroCells (Value.agg #[.string ⟨#[]⟩, .string ⟨#[]⟩, .string ⟨#[]⟩]).cells (G - (n + 1))).toList, ?_, ?_, hGm⟩
    · rw [hW1, hROW]
      have := heap_alloc_new w.drew (.cells ((cellsF A).toArray ++ Builtin.zeroCells (Value.agg #[.string ⟨#[]⟩, .string ⟨#[]⟩, .string ⟨#[]⟩]).cells (n + 1 - A.length) ++ Builtin.zeroCells (Value.agg #[.string ⟨#[]⟩, .string ⟨#[]⟩, .string ⟨#[]⟩]).cells (G - (n + 1))) 87)
      refine Eq.trans this ?_
      congr 2
      apply Array.toList_inj.1
      simp
    · simp only [Array.length_toList, Array.size_append, zero_cells3]; omega
  have hB1 : Below w.heap.size w W1 := by rw [hW1]; exact ((Below.refl _ w).drew).alloc (Nat.le_refl _) _
  obtain ⟨W2, hW2⟩ : ∃ W2, W2 = W1.setCells w.heap.size (A.length * 3) (fcells x) := ⟨_, rfl⟩
  have ho2 : Own W2 w.heap.size G (A ++ [x]) := by
    have h : Own W1 w.heap.size G (A ++ []) := by rw [List.append_nil]; exact ho1
    have := h.splice [x] (by simp; omega)
    rw [hW2]
    simpa [cellsF] using this
  have hg2 : W1.grownBy W2 (some w.heap.size) := by rw [hW2]; exact grown_setCells _ _ _
  have hB2 : Below w.heap.size w W2 := hB1.grown hg2 hB1.size (fun k e => by cases e; exact Nat.le_refl _)
  have hcpA : ∀ ty dc, (Builtin.copy_ #[26, 26] ty #[.slice (some ⟨w.heap.size, A.length * 3, none⟩) (n + 1 - A.length) dc, .slice (some ⟨b, 0, none⟩) 1 1]).run Tryz.prog W1 = .ok (goInt (Nat.min 1 (n + 1 - A.length))) W2 := fun ty dc => by
    rw [hW2]
    exact run_copy3 W1 ty w.heap.size _ _ dc ⟨b, 0, none⟩ 1 1 (fcells x) (by simp only [Nat.min_def, fcells, List.length_cons, List.length_nil]; split <;> omega)
      (fun j v hj => by rw [Addr.add_lit]; exact (show One W1 b x from (hB1.block b hbw).trans h1).row j v hj)
      (fun j hj => ho1.some (by simp [fcells] at hj; omega)) (fun j _ => ho1.frozen _) (fcells_one x)
  obtain ⟨W3, hW3⟩ : ∃ W3, W3 = W2.drew.setCells w.heap.size ((A.length + 1) * 3) (cellsF (y :: R)) := ⟨_, rfl⟩
  have hcpB : ∀ ty dc sc, (Builtin.copy_ #[26, 26] ty #[.slice (some ⟨w.heap.size, (A.length + 1) * 3, none⟩) (n - A.length) dc, .slice (some ⟨g, A.length * 3, none⟩) (n - A.length) sc]).run Tryz.prog W2.drew = .ok (goInt (Nat.min (n - A.length) (n - A.length))) W3 := fun ty dc sc => by
    rw [hW3]
    exact run_copy3 W2.drew ty w.heap.size _ _ dc ⟨g, A.length * 3, none⟩ _ sc (cellsF (y :: R)) (by rw [cellsF_length]; simp only [Nat.min_self, List.length_cons]; omega)
      (fun j v hj => by
        rw [Addr.add_lit]
        have := hrow (A.length * 3 + j) v (by rw [cellsF_append, List.getElem?_append_right (by rw [cellsF_length]; omega), cellsF_length, Nat.add_sub_cancel_left]; exact hj)
        rw [Nat.zero_add] at this
        exact (hB2.cell (p := ⟨g, A.length * 3 + j, none⟩) hgw).trans this)
      (fun j hj => by rw [cellsF_length] at hj; exact ho2.drew.some (by simp at hj; omega)) (fun j _ => ho2.drew.frozen _) (cellsF_one _)
  have FIN : Hid (Own W3 w.heap.size G (A ++ x :: y :: R) ∧ Below w.heap.size w W3) := by
    refine ⟨?_, ?_⟩
    · have h : Own W2.drew w.heap.size G ((A ++ [x]) ++ []) := by rw [List.append_nil]; exact ho2
      have := h.splice (y :: R) (by simp; omega)
      rw [hW3]
      simpa using this
    · rw [hW3]; exact hB2.drew.grown (grown_setCells _ _ _) hB2.size (fun k e => by cases e; exact Nat.le_refl _)
  have hin : A.length < n := by omega
  have hini : (A.length : Int) < (n : Int) := by omega
  have hw1 : IntKind.i64.wrap ((A.length : Int) + 1) = (A.length : Int) + 1 := by rw [IntKind.wrap_i64]; omega
  have hb1 : (0 : Int) ≤ (A.length : Int) + 1 := by omega
  have hb2 : ¬ (G = A.length + 1) := by omega
  have hb3 : (A.length : Int) ≤ (n : Int) + 1 := by omega
  have hb4 : ¬ (n = A.length) := by omega
  have hb5 : (A.length : Int) + 1 ≤ (n : Int) + 1 := by omega
  have hb6 : ¬ (G = A.length) := by omega
  have hb7 : (A.length : Int) ≤ (n : Int) := by omega
  have hz3 : ¬ ((A.length : Int) = (n : Int)) := by omega
  have htn : ((A.length : Int) + 1).toNat = A.length + 1 := by omega
  subst hcap
  clear hn hROW hW1 hW2 hW3 hG hrow ho h1 ho1 ho2 hB1 hB2 hg2 hold hik
  go_enter Tryz.func96, Tryz.ntmps96
  go_wp2_with (first
    | (at_builtin; refine Lib.wpList_append_run _ rfl _ _ _ _ rfl _ _ rfl rfl _ _ (hrz _) ?_)
    | (at_builtin; refine wpList_copy_run1 _ rfl _ _ 26 26 rfl _ _ rfl rfl (hcpA _ _) ?_))
  go_region_law (refine step_copy_run1 rfl (.tmp 50) (.tmp 53) 26 26 rfl (.slice (some ⟨w.heap.size, (A.length + 1) * 3, none⟩) (cap - A.length) (G - (A.length + 1))) (.slice (some ⟨g, A.length * 3, none⟩) (cap - A.length) (cap - A.length)) (by simp [Act.eval, Act.put]) (by simp [Act.eval, Act.put]) (hcpB _ _ _) ?_)
  go_wp2
  go_ret
  exact ⟨G, rfl, FIN.out⟩
end Go.Proofs.YtoacignhobchbaaGreatDoor
