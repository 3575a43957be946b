/-
  store.extended: the walks.
  store.Take: the walk.
-/
import Derived.Test.YtoacignhobchbaaGreatDoorSUAL
import Derived.Test.YtoacignhobchbaaGreatDoorSUAH
namespace Go.Proofs.YtoacignhobchbaaGreatDoor
open Go.RowKit

/-- the empty server is handed back, with the error E -/
def GivesZ (w : World) (E : Int) (e : Ending) (w' : World) : Prop := e = .returned (.tuple #[svZ, .int .i64 E]) ∧ Below w.heap.size w w'
theorem givesZ_of {w w' : World} {E : Int} {e : Ending} (he : e = .returned (.tuple #[svZ, .int .i64 E])) (hb : Below w.heap.size w w') : GivesZ w E e w' := ⟨he, hb⟩
/-- the boxes of a call that is handed a server and a transaction: theirs, the result's -/
structure EB (w W : World) (up : Bool) (vd : Value) (id ep : Int) (vl : Value) (dn z : Int) (vn vs vw : Value) (x : WTxn) : Prop where
  s : Box10 W w.heap.size up vd id ep vl dn z vn vs vw
  x : TAt W (w.heap.size + 1) x
  r : Box10 W (w.heap.size + 1 + 1) false (.slice none 0 0) 0 0 (.slice none 0 0) 0 0 (.slice none 0 0) (.slice none 0 0) (.slice none 0 0)
section
variable {w W V : World} {up : Bool} {id ep dn z : Int} {vd vl vn vs vw : Value} {x : WTxn}
theorem EB.next (h : EB w W up vd id ep vl dn z vn vs vw x) (hb : Below W.heap.size W V) : EB w V up vd id ep vl dn z vn vs vw x := ⟨h.s.next hb, h.x.next hb, h.r.next hb⟩
theorem EB.lt (h : EB w W up vd id ep vl dn z vn vs vw x) : w.heap.size + 3 ≤ W.heap.size := h.r.lt
theorem EB.put (h : EB w W up vd id ep vl dn z vn vs vw x) (j : Nat) (u : Value) {vd' vl' vn' vs' vw' : Value} (e : (#[.bool up, vd, .int .i64 id, .int .i64 ep, vl, .int .i64 dn, .int .i64 z, vn, vs, vw] : Array Value).setIfInBounds j u = #[.bool up, vd', .int .i64 id, .int .i64 ep, vl', .int .i64 dn, .int .i64 z, vn', vs', vw']) : EB w (W.setCell ⟨w.heap.size, j, none⟩ u) up vd' id ep vl' dn z vn' vs' vw' x := by
  refine ⟨?_, (Below.heap_setCell W ⟨w.heap.size, j, none⟩ u _ (by simp)).trans h.x, h.r.other (by omega)⟩
  unfold Box10
  rw [block_set u h.s, e]
theorem EB.touch {F : Nat → Prop} (h : EB w W up vd id ep vl dn z vn vs vw x) (ht : Touch F W V) (hF : ∀ k, w.heap.size ≤ k → k < w.heap.size + 3 → ¬ F k) : EB w V up vd id ep vl dn z vn vs vw x := by
  have hl := h.lt
  exact ⟨(ht.block _ (by omega) (hF _ (by omega) (by omega))).trans h.s, (ht.block _ (by omega) (hF _ (by omega) (by omega))).trans h.x, (ht.block _ (by omega) (hF _ (by omega) (by omega))).trans h.r⟩
theorem EB.start (w : World) (up : Bool) (id ep dn z : Int) (vd vl vn vs vw : Value) (x : WTxn) : EB w (((w.alloc (.cells #[.bool up, vd, .int .i64 id, .int .i64 ep, vl, .int .i64 dn, .int .i64 z, vn, vs, vw] 36)).alloc (.cells #[.int .i64 x.z, .int .i64 x.o, .int .i64 x.s, .string ⟨x.p.toArray⟩, .string ⟨x.d.toArray⟩, .int .i64 x.v, .int .i64 x.w] 53)).alloc (.cells #[.bool false, .slice none 0 0, .int .i64 0, .int .i64 0, .slice none 0 0, .int .i64 0, .int .i64 0, .slice none 0 0, .slice none 0 0, .slice none 0 0] 36)) up vd id ep vl dn z vn vs vw x := by
  refine ⟨((Box10.new w up id ep dn z vd vl vn vs vw).next (allocB _ _)).next (allocB _ _), ?_, ?_⟩
  · have h := (TAt.new (w.alloc (.cells #[.bool up, vd, .int .i64 id, .int .i64 ep, vl, .int .i64 dn, .int .i64 z, vn, vs, vw] 36)) x).next (allocB _ (.cells #[.bool false, .slice none 0 0, .int .i64 0, .int .i64 0, .slice none 0 0, .int .i64 0, .int .i64 0, .slice none 0 0, .slice none 0 0, .slice none 0 0] 36))
    rw [show (w.alloc (.cells #[.bool up, vd, .int .i64 id, .int .i64 ep, vl, .int .i64 dn, .int .i64 z, vn, vs, vw] 36)).heap.size = w.heap.size + 1 by simp] at h
    exact h
  · have h := Box10.new ((w.alloc (.cells #[.bool up, vd, .int .i64 id, .int .i64 ep, vl, .int .i64 dn, .int .i64 z, vn, vs, vw] 36)).alloc (.cells #[.int .i64 x.z, .int .i64 x.o, .int .i64 x.s, .string ⟨x.p.toArray⟩, .string ⟨x.d.toArray⟩, .int .i64 x.v, .int .i64 x.w] 53)) false 0 0 0 0 (.slice none 0 0) (.slice none 0 0) (.slice none 0 0) (.slice none 0 0) (.slice none 0 0)
    rw [show ((w.alloc (.cells #[.bool up, vd, .int .i64 id, .int .i64 ep, vl, .int .i64 dn, .int .i64 z, vn, vs, vw] 36)).alloc (.cells #[.int .i64 x.z, .int .i64 x.o, .int .i64 x.s, .string ⟨x.p.toArray⟩, .string ⟨x.d.toArray⟩, .int .i64 x.v, .int .i64 x.w] 53)).heap.size = w.heap.size + 1 + 1 by simp] at h
    exact h
theorem EB.startB (w : World) (a b c : Obj) : Below w.heap.size w (((w.alloc a).alloc b).alloc c) := nnext (nnext (allocB _ _) (allocB _ _)) (allocB _ _)
end
theorem Touch.setNew {F : Nat → Prop} {w W : World} (h : Touch F w W) {k j : Nat} (hk : w.heap.size ≤ k) (u : Value) : Touch F w (W.setCell ⟨k, j, none⟩ u) :=
  ⟨h.os, h.tape, h.output, by simpa [World.setCell] using h.size, fun i hi hf => (Below.heap_setCell W ⟨k, j, none⟩ u i (by simp only; omega)).trans (h.block i hi hf)⟩
theorem RowAt.touch {F : Nat → Prop} {W V : World} {b off : Nat} {cs : List Value} (h : RowAt W b off cs) (ht : Touch F W V) (hb : b < W.heap.size) (hf : ¬ F b) : RowAt V b off cs := fun i v hi => by
  rw [World.cell?, ht.block b hb hf]
  exact h i v hi
theorem disk_touch {F : Nat → Prop} {W V : World} {v : Value} {fs : List DF} (h : DiskV W v fs) (ht : Touch F W V) (hf : ∀ b off n c, v = .slice (some ⟨b, off, none⟩) n c → ¬ F b) : DiskV V v fs := by
  rcases h with h | ⟨b, off, cap, rfl, h1, h2, h3, h0, h4⟩
  · exact .inl h
  · exact .inr ⟨b, off, cap, rfl, h1, h2, Nat.lt_of_lt_of_le h3 ht.size, h0, h4.touch ht h3 (hf b off _ cap rfl)⟩
theorem put10_disk {W : World} {k : Nat} (hk : Dumb W k) {up : Bool} {id ep dn z : Int} {ad al an ai aw : Option Addr} {nd cd nl cl nn cn ni ci nw cw : Nat} {v : Value} {fs : List DF} (h : DiskV W v fs) :
    DiskV (put10 W k (.bool up) (.slice ad nd cd) (.int .i64 id) (.int .i64 ep) (.slice al nl cl) (.int .i64 dn) (.int .i64 z) (.slice an nn cn) (.slice ai ni ci) (.slice aw nw cw)) v fs := by
  have one : ∀ {W : World} {j : Nat} {u : Value}, (∀ t, u ≠ .string t) → Dumb W k → DiskV W v fs → Dumb (W.setCell ⟨k, j, none⟩ u) k ∧ DiskV (W.setCell ⟨k, j, none⟩ u) v fs := fun hu hk h => ⟨hk.set hu, disk_dumb h hk _⟩
  obtain ⟨k0, h0⟩ := one (j := 0) (u := .bool up) (by simp) hk h
  obtain ⟨k1, h1⟩ := one (j := 1) (u := .slice ad nd cd) (by simp) k0 h0
  obtain ⟨k2, h2⟩ := one (j := 2) (u := .int .i64 id) (by simp) k1 h1
  obtain ⟨k3, h3⟩ := one (j := 3) (u := .int .i64 ep) (by simp) k2 h2
  obtain ⟨k4, h4⟩ := one (j := 4) (u := .slice al nl cl) (by simp) k3 h3
  obtain ⟨k5, h5⟩ := one (j := 5) (u := .int .i64 dn) (by simp) k4 h4
  obtain ⟨k6, h6⟩ := one (j := 6) (u := .int .i64 z) (by simp) k5 h5
  obtain ⟨k7, h7⟩ := one (j := 7) (u := .slice an nn cn) (by simp) k6 h6
  obtain ⟨k8, h8⟩ := one (j := 8) (u := .slice ai ni ci) (by simp) k7 h7
  exact (one (j := 9) (u := .slice aw nw cw) (by simp) k8 h8).2
theorem put10_own {α : Type} [Lay α] {W : World} {B k : Nat} {v : Value} {xs : List α} (h : OwnS W B v xs) (hk : v.ownBlock ≠ some k) (x0 x1 x2 x3 x4 x5 x6 x7 x8 x9 : Value) : OwnS (put10 W k x0 x1 x2 x3 x4 x5 x6 x7 x8 x9) B v xs :=
  (((((((((h.other hk x0).other hk x1).other hk x2).other hk x3).other hk x4).other hk x5).other hk x6).other hk x7).other hk x8).other hk x9
theorem put10_touch {F : Nat → Prop} {w W : World} {k : Nat} (h : Touch F w W) (hk : w.heap.size ≤ k) (x0 x1 x2 x3 x4 x5 x6 x7 x8 x9 : Value) : Touch F w (put10 W k x0 x1 x2 x3 x4 x5 x6 x7 x8 x9) :=
  (((((((((h.setNew hk x0).setNew hk x1).setNew hk x2).setNew hk x3).setNew hk x4).setNew hk x5).setNew hk x6).setNew hk x7).setNew hk x8).setNew hk x9
/-- append of one transaction to a row of the call's own -/
theorem step_app_tx {w : World} {ops : Array Oper} {o : Oper} {a : Act} {K : Act → World → Prop} {Q : Exit → Act → World → Prop} {E : Prop} (hgd : Region.wanted o (yielded ops a.tmps) = true) (s x : Operand)
    (ho : o.op = .call { callee := .builtin .append, args := #[s, x], argTypes := #[24, 24] })
    (B : Nat) (hB : B ≤ w.heap.size) (v : Value) (es : List WTxn) (hs : a.eval s = v) (hown : OwnS w B v es)
    (q : Nat) (hx : a.eval x = .slice (some ⟨q, 0, none⟩) 1 1) (t : WTxn) (hnews : OneR w q t) (hl : es.length ≤ 1000000000)
    (h : ∀ a' c' w', OwnS w' B (.slice a' (es.length + 1) c') (es ++ [t]) → w.grownBy w' v.ownBlock → ((Value.slice a' (es.length + 1) c').ownBlock = v.ownBlock ∨ (Value.slice a' (es.length + 1) c').ownBlock = some w.heap.size) → K (a.put o.dst (.slice a' (es.length + 1) c')) w') :
    if Region.wanted o (yielded ops a.tmps) = true then Oper.wp Tryz.prog o a w K Q else E := by
  rw [if_pos hgd]
  obtain ⟨i0, hi0, hz0, hz1, hz2⟩ := info_txn
  obtain ⟨v', w', hr, h2, h3, _, h5⟩ := run_append_own_at (P := Tryz.prog) w B 24 o.type 53 i0 _ 7 72 Tryz.underlying24 hi0 hz0 hz1 hz2 rfl (by decide) v es.length (cellsL es) hown.row ⟨q, 0, none⟩ 1 1 (tcells t) rfl (one_news hnews) (Lay.one t) (by simp only [maxLen]; omega) (by omega) hB
  have h2' : OwnS w' B v' (es ++ [t]) := OwnS.of_row (by rw [List.length_append, cellsL_snoc]; exact h2)
  obtain ⟨a', c', rfl, _⟩ := h2'.slice
  have hlen : (es ++ [t]).length = es.length + 1 := by simp
  rw [hlen] at h2' hr h5
  unfold Oper.wp execOp
  simp only [ho, resolve, invoke, builtin, Sem.run_bind, Sem.run_pure, Result.andThen_ok, List.map_toArray, List.map_cons, List.map_nil, hs, hx, hr]
  exact h a' c' w' h2' h3 h5
theorem one_newX (w : World) (t : WTxn) : OneR (w.alloc (.cells #[.int .i64 t.z, .int .i64 t.o, .int .i64 t.s, .string ⟨t.p.toArray⟩, .string ⟨t.d.toArray⟩, .int .i64 t.v, .int .i64 t.w] 53)) w.heap.size t := heap_alloc_new w _

set_option maxRecDepth 10000 in
set_option maxHeartbeats 4000000 in
theorem ext_order (up : Bool) (id ep dn tz : Int) (fs : List DF) (ts : List WTxn) (t : WTxn) (safe : Bool) (vd vl : Value) (an ai aw : Option Addr) (nn cn ni ci nw cw : Nat) (w : World) (hd : DiskV w vd fs) (hl : LogV w vl ts) (hz : t.z ≤ lastZ ts) :
    Calls Tryz.prog 29 #[.agg #[.bool up, vd, .int .i64 id, .int .i64 ep, vl, .int .i64 dn, .int .i64 tz, .slice an nn cn, .slice ai ni ci, .slice aw nw cw], txnV t, .bool safe] w (GivesZ w 13) := by
  have CL := hide (fun W (hW : Below w.heap.size w W) => last_any vl ts W (hl.next hW))
  generalize lastZ ts = lz at *
  obtain ⟨ad, nd, cd, rfl⟩ := disk_slice hd
  obtain ⟨al, cl, rfl⟩ := log_slice hl
  clear hl
  obtain ⟨z, o, s, p, d, y, u⟩ := t
  unfold txnV at *
  simp only at *
  go_enter Tryz.func29, Tryz.ntmps29
  go_upto_region 1 with fail
  have X := hide (EB.start w up id ep dn tz (.slice ad nd cd) (.slice al ts.length cl) (.slice an nn cn) (.slice ai ni ci) (.slice aw nw cw) ⟨z, o, s, p, d, y, u⟩)
  have HB0 := hide (EB.startB w (.cells #[.bool up, .slice ad nd cd, .int .i64 id, .int .i64 ep, .slice al ts.length cl, .int .i64 dn, .int .i64 tz, .slice an nn cn, .slice ai ni ci, .slice aw nw cw] 36) (.cells #[.int .i64 z, .int .i64 o, .int .i64 s, .string ⟨p.toArray⟩, .string ⟨d.toArray⟩, .int .i64 y, .int .i64 u] 53) (.cells #[.bool false, .slice none 0 0, .int .i64 0, .int .i64 0, .slice none 0 0, .int .i64 0, .int .i64 0, .slice none 0 0, .slice none 0 0, .slice none 0 0] 36))
  simp only at X
  generalize ((w.alloc (.cells #[.bool up, .slice ad nd cd, .int .i64 id, .int .i64 ep, .slice al ts.length cl, .int .i64 dn, .int .i64 tz, .slice an nn cn, .slice ai ni ci, .slice aw nw cw] 36)).alloc (.cells #[.int .i64 z, .int .i64 o, .int .i64 s, .string ⟨p.toArray⟩, .string ⟨d.toArray⟩, .int .i64 y, .int .i64 u] 53)).alloc (.cells #[.bool false, .slice none 0 0, .int .i64 0, .int .i64 0, .slice none 0 0, .int .i64 0, .int .i64 0, .slice none 0 0, .slice none 0 0, .slice none 0 0] 36) = W0 at *
  go_cut [16] from 10 (fun t16 wx => t16 = .bool true ∧ Hid (Below W0.heap.size W0 wx))
  case first =>
    obtain ⟨x0, x1, x2, x3, x4, x5, x6, x7, x8, x9⟩ := (unhide X).s.cells
    have t0 := (unhide X).x.c0
    simp only at t0
    go_region_with (first
      | (go_at_call 66; refine (unhide CL _ (by first | with_reducible exact (unhide HB0).drew | with_reducible exact unhide HB0)).mono ?_; rintro e w1 ⟨rfl, rfl⟩))
    all_goals go_wp2_with fail
    all_goals go_meet
    all_goals first
      | exact ⟨rfl, hide (Below.refl _ _).drew⟩
      | exact ⟨rfl, hide (Below.refl _ _)⟩
      | exact ⟨by simp; omega, hide (Below.refl _ _).drew⟩
      | exact ⟨by simp; omega, hide (Below.refl _ _)⟩
  case rest =>
    obtain ⟨rfl, hbc⟩ := hcut
    have X1 := hide ((unhide X).next (unhide hbc))
    have HB1 := hide (nnext (unhide HB0) (unhide hbc))
    clear X HB0 hbc CL
    go_upto_region 2 with fail
    obtain ⟨r0, r1, r2, r3, r4, r5, r6, r7, r8, r9⟩ := (unhide X1).r.cells
    have rf0 := (unhide X1).r.froz 0
    have rf1 := (unhide X1).r.froz 1
    have rf2 := (unhide X1).r.froz 2
    have rf3 := (unhide X1).r.froz 3
    have rf4 := (unhide X1).r.froz 4
    have rf5 := (unhide X1).r.froz 5
    have rf6 := (unhide X1).r.froz 6
    have rf7 := (unhide X1).r.froz 7
    have rf8 := (unhide X1).r.froz 8
    have rf9 := (unhide X1).r.froz 9
    go_wp2_with fail
    exact bodyPost_ret (v := .tuple #[.agg #[.bool false, .slice none 0 0, .int .i64 0, .int .i64 0, .slice none 0 0, .int .i64 0, .int .i64 0, .slice none 0 0, .slice none 0 0, .slice none 0 0], .int .i64 13]) (by simp [results, Tryz.results29, go_sem, r0, r1, r2, r3, r4, r5, r6, r7, r8, r9]) rfl (givesZ_of rfl (put10_below (unhide HB1) (by omega) _ _ _ _ _ _ _ _ _ _))

set_option maxRecDepth 10000 in
set_option maxHeartbeats 4000000 in
theorem ext_err (up : Bool) (id ep dn tz : Int) (fs : List DF) (ts : List WTxn) (t : WTxn) (safe : Bool) (vd vl : Value) (an ai aw : Option Addr) (nn cn ni ci nw cw : Nat) (w : World) (hd : DiskV w vd fs) (hl : LogV w vl ts) (hz : ¬ t.z ≤ lastZ ts) (E : Int) (d1 : List DF) (hE : E ≠ 0) (G : GivesD 67 (fun x => #[x, txnV t, .bool safe]) fs d1 E) :
    Calls Tryz.prog 29 #[.agg #[.bool up, vd, .int .i64 id, .int .i64 ep, vl, .int .i64 dn, .int .i64 tz, .slice an nn cn, .slice ai ni ci, .slice aw nw cw], txnV t, .bool safe] w (GivesZ w E) := by
  have HG := hide (fun W (hW : Below w.heap.size w W) => G _ W (hd.next hW))
  have hne : (E != 0) = true := by simpa using hE
  clear G hE
  have CL := hide (fun W (hW : Below w.heap.size w W) => last_any vl ts W (hl.next hW))
  generalize lastZ ts = lz at *
  obtain ⟨ad, nd, cd, rfl⟩ := disk_slice hd
  obtain ⟨al, cl, rfl⟩ := log_slice hl
  clear hl
  obtain ⟨z, o, s, p, d, y, u⟩ := t
  unfold txnV at *
  simp only at *
  go_enter Tryz.func29, Tryz.ntmps29
  go_upto_region 1 with fail
  have X := hide (EB.start w up id ep dn tz (.slice ad nd cd) (.slice al ts.length cl) (.slice an nn cn) (.slice ai ni ci) (.slice aw nw cw) ⟨z, o, s, p, d, y, u⟩)
  have HB0 := hide (EB.startB w (.cells #[.bool up, .slice ad nd cd, .int .i64 id, .int .i64 ep, .slice al ts.length cl, .int .i64 dn, .int .i64 tz, .slice an nn cn, .slice ai ni ci, .slice aw nw cw] 36) (.cells #[.int .i64 z, .int .i64 o, .int .i64 s, .string ⟨p.toArray⟩, .string ⟨d.toArray⟩, .int .i64 y, .int .i64 u] 53) (.cells #[.bool false, .slice none 0 0, .int .i64 0, .int .i64 0, .slice none 0 0, .int .i64 0, .int .i64 0, .slice none 0 0, .slice none 0 0, .slice none 0 0] 36))
  simp only at X
  generalize ((w.alloc (.cells #[.bool up, .slice ad nd cd, .int .i64 id, .int .i64 ep, .slice al ts.length cl, .int .i64 dn, .int .i64 tz, .slice an nn cn, .slice ai ni ci, .slice aw nw cw] 36)).alloc (.cells #[.int .i64 z, .int .i64 o, .int .i64 s, .string ⟨p.toArray⟩, .string ⟨d.toArray⟩, .int .i64 y, .int .i64 u] 53)).alloc (.cells #[.bool false, .slice none 0 0, .int .i64 0, .int .i64 0, .slice none 0 0, .int .i64 0, .int .i64 0, .slice none 0 0, .slice none 0 0, .slice none 0 0] 36) = W0 at *
  go_cut [16] from 10 (fun t16 wx => t16 = .bool false ∧ Hid (Below W0.heap.size W0 wx))
  case first =>
    obtain ⟨x0, x1, x2, x3, x4, x5, x6, x7, x8, x9⟩ := (unhide X).s.cells
    have t0 := (unhide X).x.c0
    simp only at t0
    go_region_with (first
      | (go_at_call 66; refine (unhide CL _ (by first | with_reducible exact (unhide HB0).drew | with_reducible exact unhide HB0)).mono ?_; rintro e w1 ⟨rfl, rfl⟩))
    all_goals go_wp2_with fail
    all_goals go_meet
    all_goals first
      | exact ⟨rfl, hide (Below.refl _ _).drew⟩
      | exact ⟨rfl, hide (Below.refl _ _)⟩
      | exact ⟨by simp; omega, hide (Below.refl _ _).drew⟩
      | exact ⟨by simp; omega, hide (Below.refl _ _)⟩
  case rest =>
    obtain ⟨rfl, hbc⟩ := hcut
    have X1 := hide ((unhide X).next (unhide hbc))
    have HB1 := hide (nnext (unhide HB0) (unhide hbc))
    clear X HB0 hbc CL
    obtain ⟨x0, x1, x2, x3, x4, x5, x6, x7, x8, x9⟩ := (unhide X1).s.cells
    have t0 := (unhide X1).x.c0
    have t1 := (unhide X1).x.c1
    have t2 := (unhide X1).x.c2
    have t3 := (unhide X1).x.c3
    have t4 := (unhide X1).x.c4
    have t5 := (unhide X1).x.c5
    have t6 := (unhide X1).x.c6
    simp only at t0 t1 t2 t3 t4 t5 t6
    go_wp2_with fail
    refine (unhide HG _ (unhide HB1)).mono ?_
    rintro e w2 ⟨a2, n2, c2, rfl, D2, hb2⟩
    clear x0 x1 x2 x3 x4 x5 x6 x7 x8 x9 t0 t1 t2 t3 t4 t5 t6
    have hal := allocB w2 (.cells #[.slice a2 n2 c2] 28)
    have X2 := hide (((unhide X1).next hb2).next hal)
    have HB2 := hide (nnext (nnext (unhide HB1) hb2) hal)
    clear X1 HB1 hb2 hal D2 HG
    go_upto_region 5 with fail
    generalize w2.alloc (.cells #[.slice a2 n2 c2] 28) = W2 at *
    obtain ⟨r0, r1, r2, r3, r4, r5, r6, r7, r8, r9⟩ := (unhide X2).r.cells
    have rf0 := (unhide X2).r.froz 0
    have rf1 := (unhide X2).r.froz 1
    have rf2 := (unhide X2).r.froz 2
    have rf3 := (unhide X2).r.froz 3
    have rf4 := (unhide X2).r.froz 4
    have rf5 := (unhide X2).r.froz 5
    have rf6 := (unhide X2).r.froz 6
    have rf7 := (unhide X2).r.froz 7
    have rf8 := (unhide X2).r.froz 8
    have rf9 := (unhide X2).r.froz 9
    go_wp2_with fail
    exact bodyPost_ret (v := .tuple #[.agg #[.bool false, .slice none 0 0, .int .i64 0, .int .i64 0, .slice none 0 0, .int .i64 0, .int .i64 0, .slice none 0 0, .slice none 0 0, .slice none 0 0], .int .i64 E]) (by simp [results, Tryz.results29, go_sem, r0, r1, r2, r3, r4, r5, r6, r7, r8, r9]) rfl (givesZ_of rfl (put10_below (unhide HB2) (by omega) _ _ _ _ _ _ _ _ _ _))

/-- what extended gives of a server whose log lies in a row of its own, at or behind B -/
def GivesX (w : World) (B : Nat) (vl : Value) (up : Bool) (id ep dn tz : Int) (vn vs vw : Value) (d : List DF) (ts : List WTxn) (e : Ending) (w' : World) : Prop :=
  ∃ a n c a2 c2, e = .returned (.tuple #[.agg #[.bool up, .slice a n c, .int .i64 id, .int .i64 ep, .slice a2 ts.length c2, .int .i64 dn, .int .i64 tz, vn, vs, vw], .int .i64 0]) ∧ DiskV w' (.slice a n c) d ∧ OwnS w' B (.slice a2 ts.length c2) ts ∧
    ((Value.slice a2 ts.length c2).ownBlock = vl.ownBlock ∨ ∃ k, (Value.slice a2 ts.length c2).ownBlock = some k ∧ w.heap.size ≤ k) ∧ Touch (fun k => vl.ownBlock = some k) w w'

set_option maxRecDepth 10000 in
set_option maxHeartbeats 4000000 in
theorem ext_ok (up : Bool) (id ep dn tz : Int) (fs : List DF) (ts : List WTxn) (t : WTxn) (safe : Bool) (vd vl : Value) (an ai aw : Option Addr) (nn cn ni ci nw cw : Nat) (w : World) (hd : DiskV w vd fs) (hl : LogV w vl ts) (hz : ¬ t.z ≤ lastZ ts) (d1 : List DF) (B : Nat) (hB : B ≤ w.heap.size) (ho : OwnS w B vl ts) (hn : ts.length ≤ 1000000000) (hp : t.p.length ≤ 140737488355328) (hdl : t.d.length ≤ 140737488355328) (G : GivesF 67 (fun x => #[x, txnV t, .bool safe]) fs d1 0) :
    Calls Tryz.prog 29 #[.agg #[.bool up, vd, .int .i64 id, .int .i64 ep, vl, .int .i64 dn, .int .i64 tz, .slice an nn cn, .slice ai ni ci, .slice aw nw cw], txnV t, .bool safe] w (GivesX w B vl up id ep dn tz (.slice an nn cn) (.slice ai ni ci) (.slice aw nw cw) d1 (ts ++ [t])) := by
  have HG := hide (fun W (hW : Below w.heap.size w W) => G _ W (hd.next hW))
  have HO := hide (fun W (hW : Below w.heap.size w W) => ho.next hW)
  have CX := hide (fun W => ownT_any t W hp hdl)
  have hlow := ho.low
  clear G ho hp hdl
  have CL := hide (fun W (hW : Below w.heap.size w W) => last_any vl ts W (hl.next hW))
  generalize lastZ ts = lz at *
  obtain ⟨ad, nd, cd, rfl⟩ := disk_slice hd
  obtain ⟨al, cl, rfl⟩ := log_slice hl
  clear hl
  obtain ⟨z, o, s, p, d, y, u⟩ := t
  unfold txnV at *
  simp only at *
  go_enter Tryz.func29, Tryz.ntmps29
  go_upto_region 1 with fail
  have X := hide (EB.start w up id ep dn tz (.slice ad nd cd) (.slice al ts.length cl) (.slice an nn cn) (.slice ai ni ci) (.slice aw nw cw) ⟨z, o, s, p, d, y, u⟩)
  have HB0 := hide (EB.startB w (.cells #[.bool up, .slice ad nd cd, .int .i64 id, .int .i64 ep, .slice al ts.length cl, .int .i64 dn, .int .i64 tz, .slice an nn cn, .slice ai ni ci, .slice aw nw cw] 36) (.cells #[.int .i64 z, .int .i64 o, .int .i64 s, .string ⟨p.toArray⟩, .string ⟨d.toArray⟩, .int .i64 y, .int .i64 u] 53) (.cells #[.bool false, .slice none 0 0, .int .i64 0, .int .i64 0, .slice none 0 0, .int .i64 0, .int .i64 0, .slice none 0 0, .slice none 0 0, .slice none 0 0] 36))
  simp only at X
  generalize ((w.alloc (.cells #[.bool up, .slice ad nd cd, .int .i64 id, .int .i64 ep, .slice al ts.length cl, .int .i64 dn, .int .i64 tz, .slice an nn cn, .slice ai ni ci, .slice aw nw cw] 36)).alloc (.cells #[.int .i64 z, .int .i64 o, .int .i64 s, .string ⟨p.toArray⟩, .string ⟨d.toArray⟩, .int .i64 y, .int .i64 u] 53)).alloc (.cells #[.bool false, .slice none 0 0, .int .i64 0, .int .i64 0, .slice none 0 0, .int .i64 0, .int .i64 0, .slice none 0 0, .slice none 0 0, .slice none 0 0] 36) = W0 at *
  go_cut [16] from 10 (fun t16 wx => t16 = .bool false ∧ Hid (Below W0.heap.size W0 wx))
  case first =>
    obtain ⟨x0, x1, x2, x3, x4, x5, x6, x7, x8, x9⟩ := (unhide X).s.cells
    have t0 := (unhide X).x.c0
    simp only at t0
    go_region_with (first
      | (go_at_call 66; refine (unhide CL _ (by first | with_reducible exact (unhide HB0).drew | with_reducible exact unhide HB0)).mono ?_; rintro e w1 ⟨rfl, rfl⟩))
    all_goals go_wp2_with fail
    all_goals go_meet
    all_goals first
      | exact ⟨rfl, hide (Below.refl _ _).drew⟩
      | exact ⟨rfl, hide (Below.refl _ _)⟩
      | exact ⟨by simp; omega, hide (Below.refl _ _).drew⟩
      | exact ⟨by simp; omega, hide (Below.refl _ _)⟩
  case rest =>
    obtain ⟨rfl, hbc⟩ := hcut
    have X1 := hide ((unhide X).next (unhide hbc))
    have HB1 := hide (nnext (unhide HB0) (unhide hbc))
    clear X HB0 hbc CL
    obtain ⟨x0, x1, x2, x3, x4, x5, x6, x7, x8, x9⟩ := (unhide X1).s.cells
    have t0 := (unhide X1).x.c0
    have t1 := (unhide X1).x.c1
    have t2 := (unhide X1).x.c2
    have t3 := (unhide X1).x.c3
    have t4 := (unhide X1).x.c4
    have t5 := (unhide X1).x.c5
    have t6 := (unhide X1).x.c6
    simp only at t0 t1 t2 t3 t4 t5 t6
    go_wp2_with fail
    refine (unhide HG _ (unhide HB1)).mono ?_
    rintro e w2 ⟨a2, n2, c2, rfl, D2, hb2⟩
    clear x0 x1 x2 x3 x4 x5 x6 x7 x8 x9 t0 t1 t2 t3 t4 t5 t6
    have hal := allocB w2 (.cells #[.slice a2 n2 c2] 28)
    have X2 := hide (((unhide X1).next hb2).next hal)
    have HB2 := hide (nnext (nnext (unhide HB1) hb2) hal)
    have A2 := hide (BoxAt.new w2 (.slice a2 n2 c2))
    have F2 := hide ((unhide D2).1.next hal)
    have R2 := hide ((unhide D2).2.lower (unhide HB1).size)
    clear X1 HB1 hb2 hal D2 HG
    go_upto_region 6 with fail
    generalize w2.heap.size = q2 at *
    generalize w2.alloc (.cells #[.slice a2 n2 c2] 28) = W2 at *
    have ca := (unhide A2).c
    have fx := (unhide X2).s.froz 1
    obtain ⟨x0, x1, x2, x3, x4, x5, x6, x7, x8, x9⟩ := (unhide X2).s.cells
    go_upto_region 7 with fail
    have Y3 := (unhide X2).put 1 (.slice a2 n2 c2) rfl
    have B3 := (unhide HB2).setCell (p := ⟨w.heap.size, 1, none⟩) (by simp) (.slice a2 n2 c2)
    have D3 := disk_dumb (unhide F2) (j := 1) (unhide X2).s.dumb (.slice a2 n2 c2)
    clear x0 x1 x2 x3 x4 x5 x6 x7 x8 x9 fx ca A2
    generalize W2.setCell ⟨w.heap.size, 1, none⟩ (.slice a2 n2 c2) = W3 at *
    have K1 : ∀ V, Below W3.heap.size W3 V → V.cell? ⟨w.heap.size, 4, none⟩ = some (.slice al ts.length cl) ∧ w.heap.size < V.heap.size ∧ (V.alloc (.cells #[.int .i64 z, .int .i64 o, .int .i64 s, .string ⟨p.toArray⟩, .string ⟨d.toArray⟩, .int .i64 y, .int .i64 u] 53)).cell? ⟨w.heap.size, 4, none⟩ = some (.slice al ts.length cl) := fun V hV => by
      have h1 := Y3.next hV
      have h2 := h1.next (allocB V (.cells #[.int .i64 z, .int .i64 o, .int .i64 s, .string ⟨p.toArray⟩, .string ⟨d.toArray⟩, .int .i64 y, .int .i64 u] 53))
      exact ⟨h1.s.cells.2.2.2.2.1, by have := h1.lt; omega, h2.s.cells.2.2.2.2.1⟩
    have KE : ∀ V, Below W3.heap.size W3 V → OwnS (V.alloc (.cells #[.int .i64 z, .int .i64 o, .int .i64 s, .string ⟨p.toArray⟩, .string ⟨d.toArray⟩, .int .i64 y, .int .i64 u] 53)) B (.slice al ts.length cl) ts ∧ B ≤ (V.alloc (.cells #[.int .i64 z, .int .i64 o, .int .i64 s, .string ⟨p.toArray⟩, .string ⟨d.toArray⟩, .int .i64 y, .int .i64 u] 53)).heap.size := fun V hV => by
      have hb := nnext (nnext B3 hV) (allocB V (.cells #[.int .i64 z, .int .i64 o, .int .i64 s, .string ⟨p.toArray⟩, .string ⟨d.toArray⟩, .int .i64 y, .int .i64 u] 53))
      exact ⟨unhide HO _ hb, Nat.le_trans hB hb.size⟩
    have K2 : ∀ (w4 w5 : World) (a5 : Option Addr) (c5 : Nat), Below W3.heap.size W3 w4 → OwnS w5 B (.slice a5 (ts.length + 1) c5) (ts ++ [⟨z, o, s, p, d, y, u⟩]) → (w4.alloc (.cells #[.int .i64 z, .int .i64 o, .int .i64 s, .string ⟨p.toArray⟩, .string ⟨d.toArray⟩, .int .i64 y, .int .i64 u] 53)).grownBy w5 (Value.slice al ts.length cl).ownBlock →
        ((Value.slice a5 (ts.length + 1) c5).ownBlock = (Value.slice al ts.length cl).ownBlock ∨ (Value.slice a5 (ts.length + 1) c5).ownBlock = some (w4.alloc (.cells #[.int .i64 z, .int .i64 o, .int .i64 s, .string ⟨p.toArray⟩, .string ⟨d.toArray⟩, .int .i64 y, .int .i64 u] 53)).heap.size) →
        w5.cell? ⟨w.heap.size, 4, none⟩ = some (.slice al ts.length cl) ∧ w5.frozen? ⟨w.heap.size, 4, none⟩ = false ∧
        Hid (EB w (w5.setCell ⟨w.heap.size, 4, none⟩ (.slice a5 (ts.length + 1) c5)) up (.slice a2 n2 c2) id ep (.slice a5 (ts.length + 1) c5) dn tz (.slice an nn cn) (.slice ai ni ci) (.slice aw nw cw) ⟨z, o, s, p, d, y, u⟩ ∧ DiskV (w5.setCell ⟨w.heap.size, 4, none⟩ (.slice a5 (ts.length + 1) c5)) (.slice a2 n2 c2) d1 ∧ OwnS (w5.setCell ⟨w.heap.size, 4, none⟩ (.slice a5 (ts.length + 1) c5)) B (.slice a5 (ts.length + 1) c5) (ts ++ [⟨z, o, s, p, d, y, u⟩]) ∧
          ((Value.slice a5 (ts.length + 1) c5).ownBlock = (Value.slice al ts.length cl).ownBlock ∨ ∃ k, (Value.slice a5 (ts.length + 1) c5).ownBlock = some k ∧ w.heap.size ≤ k) ∧ Touch (fun k => (Value.slice al ts.length cl).ownBlock = some k) w (w5.setCell ⟨w.heap.size, 4, none⟩ (.slice a5 (ts.length + 1) c5)) ∧ (Value.slice a5 (ts.length + 1) c5).ownBlock ≠ some (w.heap.size + 1 + 1)) := by
      intro w4 w5 a5 c5 hb4 ho5 hg5 hl5
      have b5 := nnext (nnext B3 hb4) (allocB w4 (.cells #[.int .i64 z, .int .i64 o, .int .i64 s, .string ⟨p.toArray⟩, .string ⟨d.toArray⟩, .int .i64 y, .int .i64 u] 53))
      have t5 : Touch (fun k => (Value.slice al ts.length cl).ownBlock = some k) (w4.alloc (.cells #[.int .i64 z, .int .i64 o, .int .i64 s, .string ⟨p.toArray⟩, .string ⟨d.toArray⟩, .int .i64 y, .int .i64 u] 53)) w5 := Touch.of_grown hg5 (fun k e => e)
      have T5 := (Touch.of_below b5 (F := fun k => (Value.slice al ts.length cl).ownBlock = some k)).trans t5
      have X4 := (Y3.next hb4).next (allocB w4 (.cells #[.int .i64 z, .int .i64 o, .int .i64 s, .string ⟨p.toArray⟩, .string ⟨d.toArray⟩, .int .i64 y, .int .i64 u] 53))
      have X5 := X4.touch t5 (fun k h1 _ hf => by have := hlow k hf; omega)
      have z4 := X4.lt
      have ne : ∀ k, w.heap.size ≤ k → k < w.heap.size + 3 → (Value.slice a5 (ts.length + 1) c5).ownBlock ≠ some k := by
        intro k h1 h2 e
        rcases hl5 with h | h
        · rw [h] at e; have := hlow k e; omega
        · rw [h] at e; simp only [Option.some.injEq] at e; omega
      refine ⟨X5.s.cells.2.2.2.2.1, X5.s.froz 4, hide ⟨X5.put 4 (.slice a5 (ts.length + 1) c5) rfl, disk_dumb (disk_touch ((D3.next hb4).next (allocB w4 (.cells #[.int .i64 z, .int .i64 o, .int .i64 s, .string ⟨p.toArray⟩, .string ⟨d.toArray⟩, .int .i64 y, .int .i64 u] 53))) t5 (fun b off n c e hf => ?_)) X5.s.dumb _, ho5.other (ne _ (by simp) (by simp)) _, ?_, T5.setNew (by omega) _, ne _ (by omega) (by omega)⟩⟩
      · have h1 := unhide R2 b off n c e
        have h2 := hlow b hf
        omega
      · rcases hl5 with h | h
        · exact .inl h
        · exact .inr ⟨_, h, b5.size⟩
    have HK1 := hide K1
    have HKE := hide KE
    have HK2 := hide K2
    obtain ⟨x4, _, _⟩ := K1 W3 (Below.refl _ _)
    obtain ⟨e0, e1, e2, e3, e4, e5, e6⟩ : W3.cell? ⟨w.heap.size + 1, 0, none⟩ = some (.int .i64 z) ∧ W3.cell? ⟨w.heap.size + 1, 1, none⟩ = some (.int .i64 o) ∧ W3.cell? ⟨w.heap.size + 1, 2, none⟩ = some (.int .i64 s) ∧ W3.cell? ⟨w.heap.size + 1, 3, none⟩ = some (.string ⟨p.toArray⟩) ∧ W3.cell? ⟨w.heap.size + 1, 4, none⟩ = some (.string ⟨d.toArray⟩) ∧ W3.cell? ⟨w.heap.size + 1, 5, none⟩ = some (.int .i64 y) ∧ W3.cell? ⟨w.heap.size + 1, 6, none⟩ = some (.int .i64 u) := ⟨Y3.x.c0, Y3.x.c1, Y3.x.c2, Y3.x.c3, Y3.x.c4, Y3.x.c5, Y3.x.c6⟩
    clear K1 KE K2 Y3 B3 D3 HO hlow X2 HB2 F2 R2 hd
    go_cut [5] from 10 (fun _ wx => ∃ a5 c5, Hid (EB w wx up (.slice a2 n2 c2) id ep (.slice a5 (ts.length + 1) c5) dn tz (.slice an nn cn) (.slice ai ni ci) (.slice aw nw cw) ⟨z, o, s, p, d, y, u⟩ ∧ DiskV wx (.slice a2 n2 c2) d1 ∧ OwnS wx B (.slice a5 (ts.length + 1) c5) (ts ++ [⟨z, o, s, p, d, y, u⟩]) ∧
          ((Value.slice a5 (ts.length + 1) c5).ownBlock = (Value.slice al ts.length cl).ownBlock ∨ ∃ k, (Value.slice a5 (ts.length + 1) c5).ownBlock = some k ∧ w.heap.size ≤ k) ∧ Touch (fun k => (Value.slice al ts.length cl).ownBlock = some k) w wx ∧ (Value.slice a5 (ts.length + 1) c5).ownBlock ≠ some (w.heap.size + 1 + 1)))
    case first =>
      go_region_law (first
        | (refine step_app_tx (by kernel_rfl) _ _ (by rfl) B (unhide HKE w4 (unhide HB4)).2 (.slice al ts.length cl) ts (by rfl) (unhide HKE w4 (unhide HB4)).1 w4.heap.size (by rfl) ⟨z, o, s, p, d, y, u⟩ (one_newX w4 ⟨z, o, s, p, d, y, u⟩) hn ?_; intro a5 c5 w5 ho5 hg5 hl5; obtain ⟨m4, l4, HF5⟩ := unhide HK2 w4 w5 a5 c5 (unhide HB4) ho5 hg5 hl5; clear ho5 hg5 hl5)
        | (go_simp; refine (unhide CX _).mono ?_; rintro e w4 ⟨rfl, hb4⟩; have HB4 : Hid (Below W3.heap.size W3 w4) := (by first | exact hide (nbelow_drew hb4) | exact hide hb4); obtain ⟨d4, k4, d4a⟩ := unhide HK1 w4 (unhide HB4); clear hb4))
      all_goals go_wp2_with fail
      all_goals go_meet
      all_goals exact ⟨a5, c5, HF5⟩
    case rest =>
      obtain ⟨a5, c5, HF5⟩ := hcut
      obtain ⟨x0, x1, x2, x3, x4, x5, x6, x7, x8, x9⟩ := (unhide HF5).1.s.cells
      obtain ⟨r0, r1, r2, r3, r4, r5, r6, r7, r8, r9⟩ := (unhide HF5).1.r.cells
      have rf0 := (unhide HF5).1.r.froz 0
      have rf1 := (unhide HF5).1.r.froz 1
      have rf2 := (unhide HF5).1.r.froz 2
      have rf3 := (unhide HF5).1.r.froz 3
      have rf4 := (unhide HF5).1.r.froz 4
      have rf5 := (unhide HF5).1.r.froz 5
      have rf6 := (unhide HF5).1.r.froz 6
      have rf7 := (unhide HF5).1.r.froz 7
      have rf8 := (unhide HF5).1.r.froz 8
      have rf9 := (unhide HF5).1.r.froz 9
      clear HK1 HKE HK2 CX
      go_wp2_with fail
      refine bodyPost_ret (v := .tuple #[.agg #[.bool up, .slice a2 n2 c2, .int .i64 id, .int .i64 ep, .slice a5 (ts.length + 1) c5, .int .i64 dn, .int .i64 tz, .slice an nn cn, .slice ai ni ci, .slice aw nw cw], .int .i64 0]) (by simp [results, Tryz.results29, go_sem, r0, r1, r2, r3, r4, r5, r6, r7, r8, r9]) rfl ?_
      obtain ⟨EB5, DD5, OO5, hl5, TT5, ne5⟩ := unhide HF5
      have hlen : (ts ++ [(⟨z, o, s, p, d, y, u⟩ : WTxn)]).length = ts.length + 1 := by simp
      unfold GivesX
      rw [hlen]
      exact ⟨a2, n2, c2, a5, c5, rfl, put10_disk EB5.r.dumb DD5, put10_own OO5 ne5 _ _ _ _ _ _ _ _ _ _, hl5, put10_touch TT5 (by omega) _ _ _ _ _ _ _ _ _ _⟩

end Go.Proofs.YtoacignhobchbaaGreatDoor
namespace Go.Proofs.YtoacignhobchbaaGreatDoor
open Go.RowKit

/-- what Take makes of a server -/
def Took (s : Sv) (t : WTxn) (safe : Bool) (E : Int) (s' : Sv) : Prop :=
  (t.z ≤ lastZ s.ts ∧ E = 13 ∧ s' = sv0) ∨ (¬ t.z ≤ lastZ s.ts ∧ E ≠ 0 ∧ s' = sv0 ∧ ∃ d1, GivesD 67 (fun x => #[x, txnV t, .bool safe]) s.fs d1 E) ∨
  (¬ t.z ≤ lastZ s.ts ∧ E = 0 ∧ ∃ d1, s' = ⟨s.up, d1, s.id, s.ep, s.ts ++ [t], s.dn, s.tr, s.ws⟩ ∧ GivesF 67 (fun x => #[x, txnV t, .bool safe]) s.fs d1 0)
/-- a server is handed back, its rows spelt out, its sessions' away from block q -/
def TakeX (w : World) (q : Nat) (s : Sv) (E : Int) (e : Ending) (w' : World) : Prop :=
  ∃ ad nd cd al nl cl an nn cn ai ni ci aw nw cw, e = .returned (.tuple #[.agg #[.bool s.up, .slice ad nd cd, .int .i64 s.id, .int .i64 s.ep, .slice al nl cl, .int .i64 s.dn, .int .i64 s.tr.z, .slice an nn cn, .slice ai ni ci, .slice aw nw cw], .int .i64 E]) ∧
    Hid (DiskV w' (.slice ad nd cd) s.fs ∧ LogV w' (.slice al nl cl) s.ts ∧ SeqV w' (.slice an nn cn) s.tr.ns ∧ SeqV w' (.slice ai ni ci) s.tr.ss ∧ Away (.slice ai ni ci) q ∧ SeqV w' (.slice aw nw cw) s.ws ∧ Fresh w.heap.size (.slice ai ni ci)) ∧ Below w.heap.size w w'
theorem takeX_zero {w w' : World} {q : Nat} {E : Int} {e : Ending} (he : e = .returned (.tuple #[svZ, .int .i64 E])) (hb : Below w.heap.size w w') : TakeX w q sv0 E e w' :=
  ⟨none, 0, 0, none, 0, 0, none, 0, 0, none, 0, 0, none, 0, 0, he, hide ⟨DiskV.nil _, LogV.nil _, SeqV.nil _, SeqV.nil _, away_none _ _ _, SeqV.nil _, fresh_none _ _ _⟩, hb⟩
theorem fresh_ownS {α : Type} [Lay α] {W : World} {B : Nat} {v : Value} {xs : List α} (h : OwnS W B v xs) : Fresh B v := by
  intro b off n c e
  rcases h with ⟨rfl, _⟩ | ⟨g, cap, rfl, hB, _⟩
  · simp at e
  · simp only [Value.slice.injEq, Option.some.injEq, Addr.mk.injEq] at e
    omega
/-- as GivesV, and the sessions lie in new memory -/
def GivesVF (w : World) (s : Sv) (E : Int) (e : Ending) (w' : World) : Prop :=
  ∃ ad nd cd al nl cl an nn cn ai ni ci aw nw cw, e = .returned (.tuple #[.agg #[.bool s.up, .slice ad nd cd, .int .i64 s.id, .int .i64 s.ep, .slice al nl cl, .int .i64 s.dn, .int .i64 s.tr.z, .slice an nn cn, .slice ai ni ci, .slice aw nw cw], .int .i64 E]) ∧
    Hid (SvV w' (.agg #[.bool s.up, .slice ad nd cd, .int .i64 s.id, .int .i64 s.ep, .slice al nl cl, .int .i64 s.dn, .int .i64 s.tr.z, .slice an nn cn, .slice ai ni ci, .slice aw nw cw]) s ∧ Fresh w.heap.size (.slice ai ni ci)) ∧ Below w.heap.size w w'
theorem GivesVF.v {w w' : World} {s : Sv} {E : Int} {e : Ending} (h : GivesVF w s E e w') : GivesV w s E e w' := by
  obtain ⟨ad, nd, cd, al, nl, cl, an, nn, cn, ai, ni, ci, aw, nw, cw, he, hs, hb⟩ := h
  exact ⟨_, he, (unhide hs).1, hb⟩
theorem own_touch {α : Type} [Lay α] {F : Nat → Prop} {W V : World} {B : Nat} {v : Value} {xs : List α} (h : OwnS W B v xs) (ht : Touch F W V) (hf : ∀ k, v.ownBlock = some k → ¬ F k) : OwnS V B v xs := by
  rcases h with h | ⟨g, cap, rfl, hB, h⟩
  · exact .inl h
  · obtain ⟨rest, h1, h2⟩ := h
    have hlt := (Array.getElem?_eq_some_iff.1 h1).1
    exact .inr ⟨g, cap, rfl, hB, rest, (ht.block g hlt (hf g rfl)).trans h1, h2⟩
theorem own_ge {α : Type} [Lay α] {W : World} {B k : Nat} {v : Value} {xs : List α} (h : OwnS W B v xs) (hk : v.ownBlock = some k) : B ≤ k := by
  rcases h with ⟨rfl, _⟩ | ⟨g, cap, rfl, hB, _⟩
  · simp [Value.ownBlock] at hk
  · simp [Value.ownBlock] at hk; omega

set_option maxHeartbeats 1000000 in
/-- extended, of a copy that was made behind the world w -/
theorem ext_of_copy (s s' : Sv) (t : WTxn) (safe : Bool) (E : Int) (hT : Took s t safe E s') (hp : t.p.length ≤ 140737488355328) (hdl : t.d.length ≤ 140737488355328) (hn : s.ts.length ≤ 1000000000) (W w1 : World) (q : Nat) (hq : q < W.heap.size)
    (ad al an ai aw : Option Addr) (nd cd cl cn ci cw B1 B2 : Nat) (h1 : W.heap.size ≤ B1) (h2 : B1 ≤ B2) (od : OwnS w1 W.heap.size (.slice ad nd cd) s.fs) (_hd1 : ∀ k, (Value.slice ad nd cd).ownBlock = some k → k < B1)
    (ol : OwnS w1 B1 (.slice al s.ts.length cl) s.ts) (hl2 : ∀ k, (Value.slice al s.ts.length cl).ownBlock = some k → k < B2) (on : OwnS w1 B2 (.slice an s.tr.ns.length cn) s.tr.ns) (oi : OwnS w1 B2 (.slice ai s.tr.ss.length ci) s.tr.ss) (ow : OwnS w1 B2 (.slice aw s.ws.length cw) s.ws) (hb1 : Below W.heap.size W w1) :
    Calls Tryz.prog 29 #[.agg #[.bool s.up, .slice ad nd cd, .int .i64 s.id, .int .i64 s.ep, .slice al s.ts.length cl, .int .i64 s.dn, .int .i64 s.tr.z, .slice an s.tr.ns.length cn, .slice ai s.tr.ss.length ci, .slice aw s.ws.length cw], txnV t, .bool safe] w1 (TakeX W q s' E) := by
  have hd := seq_disk.1 od.seq
  have hl := seq_log.1 ol.seq
  rcases hT with ⟨hz, rfl, rfl⟩ | ⟨hz, hE, rfl, d1, G⟩ | ⟨hz, rfl, d1, rfl, G⟩
  · exact (ext_order s.up s.id s.ep s.dn s.tr.z s.fs s.ts t safe _ _ an ai aw _ cn _ ci _ cw w1 hd hl hz).mono fun e w' h => takeX_zero h.1 (nnext hb1 h.2)
  · exact (ext_err s.up s.id s.ep s.dn s.tr.z s.fs s.ts t safe _ _ an ai aw _ cn _ ci _ cw w1 hd hl hz E d1 hE G).mono fun e w' h => takeX_zero h.1 (nnext hb1 h.2)
  · refine (ext_ok s.up s.id s.ep s.dn s.tr.z s.fs s.ts t safe _ _ an ai aw _ cn _ ci _ cw w1 hd hl hz d1 W.heap.size hb1.size (ol.lower h1) hn hp hdl G).mono fun e w' h => ?_
    obtain ⟨a, n, c, a2, c2, he, hd', ol', _, ht⟩ := h
    have hs : ∀ {α : Type} [Lay α] {v : Value} {xs : List α}, OwnS w1 B2 v xs → OwnS w' B2 v xs := fun ho => own_touch ho ht (fun k hk hf => by have := own_ge ho hk; have := hl2 k hf; omega)
    refine ⟨a, n, c, a2, _, c2, an, _, cn, ai, _, ci, aw, _, cw, he, hide ⟨hd', seq_log.1 ol'.seq, (hs on).seq, (hs oi).seq, away_own oi (by omega), (hs ow).seq, (fresh_ownS oi).lower (by omega)⟩, ?_⟩
    exact hb1.trans (ht.below (B := W.heap.size) hb1.size (fun k hk => by have := own_ge ol hk; omega))

/-- the boxes of Take: as EB -/
theorem EB.zero {w W : World} {up : Bool} {id ep dn z : Int} {vd vl vn vs vw : Value} {x : WTxn} (h : EB w W up vd id ep vl dn z vn vs vw x) : w.heap.size + 1 + 1 < W.heap.size := h.r.lt

set_option maxRecDepth 10000 in
set_option maxHeartbeats 4000000 in
theorem stakeF_any (s s' : Sv) (v : Value) (t : WTxn) (safe : Bool) (E : Int) (w : World) (hv : SvV w v s) (hf : Fits s) (hT : Took s t safe E s') (hp : t.p.length ≤ 140737488355328) (hdl : t.d.length ≤ 140737488355328) (hn : s.ts.length ≤ 1000000000) :
    Calls Tryz.prog 16 #[v, txnV t, .bool safe] w (GivesVF w s' E) := by
  have CC := hide (fun W (hW : Below w.heap.size w W) => scopied_any s v W (hv.next hW) hf)
  have CX := hide (ext_of_copy s s' t safe E hT hp hdl hn)
  obtain ⟨ad, nd, cd, al, cl, an, cn, ai, ci, aw, cw, rfl, d1, l1, n1, s1, k1⟩ := hv.five
  clear hv d1 l1 n1 s1 k1 hf hT hp hdl hn
  obtain ⟨up, fs, id, ep, ts, dn, ⟨tz, tns, tss⟩, ws⟩ := s
  obtain ⟨z, o, s, p, d, y, u⟩ := t
  unfold txnV at *
  simp only at *
  go_enter Tryz.func16, Tryz.ntmps16
  go_upto_region 1 with fail
  have X := hide (EB.start w up id ep dn tz (.slice ad nd cd) (.slice al ts.length cl) (.slice an tns.length cn) (.slice ai tss.length ci) (.slice aw ws.length cw) ⟨z, o, s, p, d, y, u⟩)
  have HB0 := hide (EB.startB w (.cells #[.bool up, .slice ad nd cd, .int .i64 id, .int .i64 ep, .slice al ts.length cl, .int .i64 dn, .int .i64 tz, .slice an tns.length cn, .slice ai tss.length ci, .slice aw ws.length cw] 36) (.cells #[.int .i64 z, .int .i64 o, .int .i64 s, .string ⟨p.toArray⟩, .string ⟨d.toArray⟩, .int .i64 y, .int .i64 u] 53) (.cells #[.bool false, .slice none 0 0, .int .i64 0, .int .i64 0, .slice none 0 0, .int .i64 0, .int .i64 0, .slice none 0 0, .slice none 0 0, .slice none 0 0] 36))
  simp only at X
  generalize ((w.alloc (.cells #[.bool up, .slice ad nd cd, .int .i64 id, .int .i64 ep, .slice al ts.length cl, .int .i64 dn, .int .i64 tz, .slice an tns.length cn, .slice ai tss.length ci, .slice aw ws.length cw] 36)).alloc (.cells #[.int .i64 z, .int .i64 o, .int .i64 s, .string ⟨p.toArray⟩, .string ⟨d.toArray⟩, .int .i64 y, .int .i64 u] 53)).alloc (.cells #[.bool false, .slice none 0 0, .int .i64 0, .int .i64 0, .slice none 0 0, .int .i64 0, .int .i64 0, .slice none 0 0, .slice none 0 0, .slice none 0 0] 36) = W0 at *
  have K1 : ∀ V, Below W0.heap.size W0 V → V.cell? ⟨w.heap.size + 1, 0, none⟩ = some (.int .i64 z) ∧ V.cell? ⟨w.heap.size + 1, 1, none⟩ = some (.int .i64 o) ∧ V.cell? ⟨w.heap.size + 1, 2, none⟩ = some (.int .i64 s) ∧ V.cell? ⟨w.heap.size + 1, 3, none⟩ = some (.string ⟨p.toArray⟩) ∧ V.cell? ⟨w.heap.size + 1, 4, none⟩ = some (.string ⟨d.toArray⟩) ∧ V.cell? ⟨w.heap.size + 1, 5, none⟩ = some (.int .i64 y) ∧ V.cell? ⟨w.heap.size + 1, 6, none⟩ = some (.int .i64 u) := fun V hV => by
    have h := ((unhide X).next hV).x
    exact ⟨h.c0, h.c1, h.c2, h.c3, h.c4, h.c5, h.c6⟩
  have HK1 := hide K1
  obtain ⟨x0, x1, x2, x3, x4, x5, x6, x7, x8, x9⟩ := (unhide X).s.cells
  obtain ⟨e0, e1, e2, e3, e4, e5, e6⟩ := K1 W0 (Below.refl _ _)
  have hq := (unhide X).lt
  clear K1
  go_region_with (first
    | (go_at_call 17; refine (unhide CC _ (unhide HB0).drew).mono ?_; rintro e w1 ⟨bd, md, fd, bl, fl, bn, fn, bi, fi, bw, fw, B1, B2, rfl, h1, h2, od, hd1, ol, hl2, on, oi, ow, hb1⟩; have HB1 := hide (nbelow_drew hb1); obtain ⟨m0, m1, m2, m3, m4, m5, m6⟩ := unhide HK1 _ (unhide HB1); have CY := hide (unhide CX _ _ (w.heap.size + 1 + 1) (by show w.heap.size + 1 + 1 < W0.heap.size; omega) _ _ _ _ _ _ _ _ _ _ _ _ _ h1 h2 od hd1 ol hl2 on oi ow hb1); have X1 := hide ((unhide X).next (unhide HB1)); clear h1 h2 od hd1 ol hl2 on oi ow hb1)
    | (go_at_call 29; refine (unhide CY).mono ?_; rintro e w2 ⟨gd, nd2, cd2, gl, nl2, cl2, gn, nn2, cn2, gi, ni2, ci2, gw, nw2, cw2, rfl, H2, hb2⟩; have X2 := (unhide X).next (nbelow_drew hb2); have R2 := X2.r; obtain ⟨r0, r1, r2, r3, r4, r5, r6, r7, r8, r9⟩ := R2.cells; have rf0 := R2.froz 0; have rf1 := R2.froz 1; have rf2 := R2.froz 2; have rf3 := R2.froz 3; have rf4 := R2.froz 4; have rf5 := R2.froz 5; have rf6 := R2.froz 6; have rf7 := R2.froz 7; have rf8 := R2.froz 8; have rf9 := R2.froz 9; have D2 := hide R2.dumb; have HB2 := hide (nnext (unhide HB0) (nbelow_drew hb2)); clear hb2 R2 X2))
  all_goals
    go_wp2_with fail
    refine bodyPost_ret (v := .tuple #[.agg #[.bool s'.up, .slice gd nd2 cd2, .int .i64 s'.id, .int .i64 s'.ep, .slice gl nl2 cl2, .int .i64 s'.dn, .int .i64 s'.tr.z, .slice gn nn2 cn2, .slice gi ni2 ci2, .slice gw nw2 cw2], .int .i64 E]) (by simp [results, Tryz.results16, go_sem, r0, r1, r2, r3, r4, r5, r6, r7, r8, r9]) rfl ?_
    obtain ⟨g1, g2, g3, g4, g5, g6, g7⟩ := unhide H2
    exact ⟨gd, nd2, cd2, gl, nl2, cl2, gn, nn2, cn2, gi, ni2, ci2, gw, nw2, cw2, rfl, hide ⟨put10_new (s := s') (unhide D2) g1 g2 g3 g4 g5 g6, g7.lower (by show w.heap.size ≤ W0.heap.size; omega)⟩, put10_below (unhide HB2) (by omega) _ _ _ _ _ _ _ _ _ _⟩
end Go.Proofs.YtoacignhobchbaaGreatDoor
