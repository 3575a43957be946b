/-
  store.Commit's closure: the walk.
  Transactions done one behind the other: plain lemmas.
-/
import Derived.Test.YtoacignhobchbaaGreatDoorSUX
import Derived.Test.YtoacignhobchbaaGreatDoorSUAW
import Derived.Test.YtoacignhobchbaaGreatDoorSUAG
import Derived.Laws.AppendOwnNone
namespace Go.Proofs.YtoacignhobchbaaGreatDoor
open Go.RowKit

/-- one transaction done -/
noncomputable def stepW (s : Sv) (x : WTxn) : List Wa := if x.o = 2 then dropW (fireW s.ws (appV s.tr x)) x.s else fireW s.ws (appV s.tr x)
noncomputable def cstepS (s : Sv) (x : WTxn) : Sv := ⟨s.up, s.fs, s.id, s.ep, s.ts, s.dn, appT s.tr x, stepW s x⟩
theorem own_box {α : Type} [Lay α] {W : World} {B k : Nat} {v : Value} {xs : List α} {c : Array Value} {T : TypeId} {fz : Nat × Nat} (h : OwnS W B v xs) (hk : W.heap[k]? = some (.cells c T fz)) (hne : T ≠ Lay.ty α) : v.ownBlock ≠ some k := by
  intro e
  rcases h with ⟨rfl, _⟩ | ⟨g, cap, rfl, _, rest, h1, _⟩
  · simp [Value.ownBlock] at e
  · simp only [Value.ownBlock, Option.some.injEq] at e
    subst e
    rw [h1] at hk
    simp at hk
    exact hne hk.2.1.symm
theorem own_apart {α β : Type} [Lay α] [Lay β] {W : World} {B C : Nat} {u v : Value} {xs : List α} {ys : List β} (h : OwnS W B u xs) (k : OwnS W C v ys) (hne : Lay.ty α ≠ Lay.ty β) : ∀ q, u.ownBlock = some q → some q ≠ v.ownBlock := by
  intro q hq e
  rcases h with ⟨rfl, rfl⟩ | ⟨g, cap, rfl, _, rest, h1, _⟩
  · simp [Value.ownBlock] at hq
  · rcases k with ⟨rfl, rfl⟩ | ⟨g', cap', rfl, _, rest', h1', _⟩
    · simp [Value.ownBlock] at e
    · simp only [Value.ownBlock, Option.some.injEq] at hq e
      subst hq e
      rw [h1] at h1'
      simp at h1'
      exact hne h1'.2

theorem own_boxS {α : Type} [Lay α] {W : World} {B k : Nat} {v : Value} {xs : List α} {up : Bool} {id ep dn z : Int} {vd vl vn vs vw : Value} (h : OwnS W B v xs) (hb : Box10 W k up vd id ep vl dn z vn vs vw) (hne : 36 ≠ Lay.ty α) : v.ownBlock ≠ some k := by
  unfold Box10 at hb
  exact own_box h hb hne
/-- the boxes of Commit: the server's, the notes'; all rows its own -/
structure CI (w W : World) (ka kn kr : Nat) (s : Sv) (N : List Nt) (vd vl vn vs vw vN : Value) : Prop where
  box : Box10 W ka s.up vd s.id s.ep vl s.dn s.tr.z vn vs vw
  nb : W.heap[kn]? = some (.cells #[vN] 42 (0, 0))
  d : OwnS W w.heap.size vd s.fs
  l : OwnS W w.heap.size vl s.ts
  n : OwnS W w.heap.size vn s.tr.ns
  i : OwnS W w.heap.size vs s.tr.ss
  o : OwnS W w.heap.size vw s.ws
  t : OwnS W w.heap.size vN N
  below : Below w.heap.size w W
  ha : w.heap.size ≤ ka
  hn : w.heap.size ≤ kn
  ne : ka ≠ kn
  r : Box10 W kr false (.slice none 0 0) 0 0 (.slice none 0 0) 0 0 (.slice none 0 0) (.slice none 0 0) (.slice none 0 0)
  r1 : kr ≠ ka
  r2 : kr ≠ kn
  hr : w.heap.size ≤ kr
theorem CI.next {w W V : World} {ka kn kr : Nat} {s : Sv} {N : List Nt} {vd vl vn vs vw vN : Value} (h : CI w W ka kn kr s N vd vl vn vs vw vN) (hb : Below W.heap.size W V) : CI w V ka kn kr s N vd vl vn vs vw vN :=
  ⟨h.box.next hb, (hb.block kn (Array.getElem?_eq_some_iff.1 h.nb).1).trans h.nb, h.d.next hb, h.l.next hb, h.n.next hb, h.i.next hb, h.o.next hb, h.t.next hb, nnext h.below hb, h.ha, h.hn, h.ne, h.r.next hb, h.r1, h.r2, h.hr⟩
/-- a store into the server's box -/
theorem own_setB {α : Type} [Lay α] {W : World} {B k j : Nat} {v : Value} {xs : List α} {up : Bool} {id ep dn z : Int} {vd vl vn vs vw : Value} (h : OwnS W B v xs) (hb : Box10 W k up vd id ep vl dn z vn vs vw) (hne : 36 ≠ Lay.ty α) (u : Value) : OwnS (W.setCell ⟨k, j, none⟩ u) B v xs :=
  h.other (own_boxS h hb hne) u
theorem CI.tree {w W : World} {ka kn kr : Nat} {s : Sv} {N : List Nt} {vd vl vn vs vw vN vn' vs' vw' : Value} {t' : Tr} {ws' : List Wa} (h : CI w W ka kn kr s N vd vl vn vs vw vN) (hn' : OwnS W w.heap.size vn' t'.ns) (hs' : OwnS W w.heap.size vs' t'.ss) (hw' : OwnS W w.heap.size vw' ws') :
    CI w ((((W.setCell ⟨ka, 6, none⟩ (.int .i64 t'.z)).setCell ⟨ka, 7, none⟩ vn').setCell ⟨ka, 8, none⟩ vs').setCell ⟨ka, 9, none⟩ vw') ka kn kr ⟨s.up, s.fs, s.id, s.ep, s.ts, s.dn, t', ws'⟩ N vd vl vn' vs' vw' vN := by
  have b1 : Box10 (W.setCell ⟨ka, 6, none⟩ (.int .i64 t'.z)) ka s.up vd s.id s.ep vl s.dn t'.z vn vs vw := block_set (j := 6) _ h.box
  have b2 : Box10 ((W.setCell ⟨ka, 6, none⟩ (.int .i64 t'.z)).setCell ⟨ka, 7, none⟩ vn') ka s.up vd s.id s.ep vl s.dn t'.z vn' vs vw := block_set (j := 7) _ b1
  have b3 : Box10 (((W.setCell ⟨ka, 6, none⟩ (.int .i64 t'.z)).setCell ⟨ka, 7, none⟩ vn').setCell ⟨ka, 8, none⟩ vs') ka s.up vd s.id s.ep vl s.dn t'.z vn' vs' vw := block_set (j := 8) _ b2
  have b4 : Box10 ((((W.setCell ⟨ka, 6, none⟩ (.int .i64 t'.z)).setCell ⟨ka, 7, none⟩ vn').setCell ⟨ka, 8, none⟩ vs').setCell ⟨ka, 9, none⟩ vw') ka s.up vd s.id s.ep vl s.dn t'.z vn' vs' vw' := block_set (j := 9) _ b3
  have keep : ∀ {α : Type} [Lay α] {v : Value} {xs : List α}, OwnS W w.heap.size v xs → 36 ≠ Lay.ty α → OwnS ((((W.setCell ⟨ka, 6, none⟩ (.int .i64 t'.z)).setCell ⟨ka, 7, none⟩ vn').setCell ⟨ka, 8, none⟩ vs').setCell ⟨ka, 9, none⟩ vw') w.heap.size v xs :=
    fun h0 hne => own_setB (own_setB (own_setB (own_setB h0 h.box hne _) b1 hne _) b2 hne _) b3 hne _
  refine ⟨b4, ?_, keep h.d (by decide), keep h.l (by decide), keep hn' (by decide), keep hs' (by decide), keep hw' (by decide), keep h.t (by decide), (((h.below.setCell h.ha _).setCell h.ha _).setCell h.ha _).setCell h.ha _, h.ha, h.hn, h.ne, (((h.r.other h.r1).other h.r1).other h.r1).other h.r1, h.r1, h.r2, h.hr⟩
  exact (Below.heap_setCell _ _ _ _ (Ne.symm h.ne)).trans ((Below.heap_setCell _ _ _ _ (Ne.symm h.ne)).trans ((Below.heap_setCell _ _ _ _ (Ne.symm h.ne)).trans ((Below.heap_setCell _ _ _ _ (Ne.symm h.ne)).trans h.nb)))
theorem CI.note {w W V : World} {ka kn kr : Nat} {s : Sv} {N N' : List Nt} {vd vl vn vs vw vN vN' : Value} (h : CI w W ka kn kr s N vd vl vn vs vw vN) (hg : W.grownBy V vN.ownBlock) (ho : OwnS V w.heap.size vN' N') :
    CI w (V.setCell ⟨kn, 0, none⟩ vN') ka kn kr s N' vd vl vn vs vw vN' := by
  have na : some ka ≠ vN.ownBlock := fun e => own_boxS h.t h.box (by decide) e.symm
  have nn : some kn ≠ vN.ownBlock := fun e => own_box h.t h.nb (by decide) e.symm
  have bV : Box10 V ka s.up vd s.id s.ep vl s.dn s.tr.z vn vs vw := (hg.block ka h.box.lt na).trans h.box
  have nV : V.heap[kn]? = some (.cells #[vN] 42 (0, 0)) := (hg.block kn (Array.getElem?_eq_some_iff.1 h.nb).1 nn).trans h.nb
  have keep : ∀ {α : Type} [Lay α] {v : Value} {xs : List α}, OwnS W w.heap.size v xs → Lay.ty α ≠ 130 → 42 ≠ Lay.ty α → OwnS (V.setCell ⟨kn, 0, none⟩ vN') w.heap.size v xs := fun h0 h1 h2 => by
    have k := h0.grown hg (own_apart h0 h.t h1)
    exact k.other (own_box k nV h2) _
  refine ⟨bV.other h.ne, ?_, keep h.d (by decide) (by decide), keep h.l (by decide) (by decide), keep h.n (by decide) (by decide), keep h.i (by decide) (by decide), keep h.o (by decide) (by decide), ho.other (own_box ho nV (by decide)) _, (h.below.grown hg h.below.size (fun g e => ?_)).setCell h.hn _, h.ha, h.hn, h.ne, Box10.other ((hg.block kr h.r.lt (fun e => own_boxS h.t h.r (by decide) e.symm)).trans h.r) h.r2, h.r1, h.r2, h.hr⟩
  · rw [block_set _ nV]; rfl
  · rcases h.t with ⟨e1, _⟩ | ⟨g', cap, e1, hB, _⟩
    · rw [e1] at e; simp [Value.ownBlock] at e
    · rw [e1] at e; simp only [Value.ownBlock, Option.some.injEq] at e; omega
theorem own_slice' {α : Type} [Lay α] {W : World} {B : Nat} {v : Value} {xs : List α} (h : OwnS W B v xs) : ∃ a c, v = .slice a xs.length c := by
  obtain ⟨a, c, e, _⟩ := h.slice
  exact ⟨a, c, e⟩
set_option maxRecDepth 10000 in
/-- append(notes, told...) -/
theorem run_notes (W : World) (ty : TypeId) (B C : Nat) (v u : Value) (N T : List Nt) (hv : OwnS W B v N) (hu : OwnS W C u T) (hl : (N.length + T.length) * 32 ≤ 140737488355328) (hB : B ≤ W.heap.size) :
    ∃ v' w', (Builtin.append_ #[42, 42] ty #[v, u]).run Tryz.prog W = .ok v' w' ∧ OwnS w' B v' (N ++ T) ∧ W.grownBy w' v.ownBlock := by
  obtain ⟨i0, hi0, hz0, hz1, hz2⟩ := tinfo
  rcases hu with ⟨rfl, rfl⟩ | ⟨g, cap, rfl, _, hr⟩
  · refine ⟨v, W, run_append_owned_none (P := Tryz.prog) (w := W) B 42 ty 130 i0 3 Tryz.underlying42 hi0 v N.length (cellsL N) hv.row, by rw [List.append_nil]; exact hv, ⟨rfl, rfl, rfl, Nat.le_refl _, fun _ _ _ => rfl⟩⟩
  · obtain ⟨v', w', h1, h2, h3, _⟩ := run_append_own (P := Tryz.prog) W B 42 ty 130 i0 _ 3 32 Tryz.underlying42 hi0 hz0 hz1 hz2 rfl (by decide) v N.length (cellsL N) hv.row ⟨g, 0, none⟩ T.length cap (cellsL T) (cellsL_length T) (fun j x hj => by rw [Addr.add_lit]; exact hr.row j x hj) (cellsL_one T) (by simp only [maxLen]; omega) hl hB
    exact ⟨v', w', h1, OwnS.of_row (by rw [List.length_append, cellsL_append]; exact h2), h3⟩
theorem wpList_notes {w : World} {ops : Array Oper} {rest : List Oper} {o : Oper} {a : Act} {Q : Exit → Act → World → Prop} (hgd : o.guard = none) (s x : Operand)
    (ho : o.op = .call { callee := .builtin .append, args := #[s, x], argTypes := #[42, 42] })
    (B C : Nat) (v u : Value) (N T : List Nt) (hs : a.eval s = v) (hx : a.eval x = u) (hv : OwnS w B v N) (hu : OwnS w C u T) (hl : (N.length + T.length) * 32 ≤ 140737488355328) (hB : B ≤ w.heap.size)
    (h : ∀ a' c' w', OwnS w' B (.slice a' (N ++ T).length c') (N ++ T) → w.grownBy w' v.ownBlock → wpList Tryz.prog ops Q rest (a.put o.dst (.slice a' (N ++ T).length c')) w') : wpList Tryz.prog ops Q (o :: rest) a w := by
  refine wpList_plain hgd fun K hK => ?_
  obtain ⟨v', w', hr, h2, h3⟩ := run_notes w o.type B C v u N T hv hu hl hB
  obtain ⟨a', c', rfl⟩ := own_slice' h2
  unfold Oper.wp execOp
  simp only [ho, resolve, invoke, builtin, Sem.run_bind, Sem.run_pure, Result.andThen_ok, List.map_toArray, List.map_cons, List.map_nil, hs, hx, hr]
  exact hK _ _ (h a' c' w' h2 h3)

/-- rows of notes stay when the server's box is stored into -/
theorem note_after {W : World} {B ka : Nat} {v : Value} {T : List Nt} {up : Bool} {id ep dn z : Int} {vd vl vn vs vw : Value} (h : OwnS W B v T) (hb : Box10 W ka up vd id ep vl dn z vn vs vw) (x6 x7 x8 x9 : Value) : OwnS ((((W.setCell ⟨ka, 6, none⟩ x6).setCell ⟨ka, 7, none⟩ x7).setCell ⟨ka, 8, none⟩ x8).setCell ⟨ka, 9, none⟩ x9) B v T := by
  have hk := own_boxS h hb (by decide)
  exact (((h.other hk x6).other hk x7).other hk x8).other hk x9
/-- what Commit's closure asks of a server and a transaction -/
structure CFit (s : Sv) (N : List Nt) (x : WTxn) : Prop where
  wf : WfT s.tr
  xd : x.d.length ≤ 140737488355328
  xp : x.p.length ≤ 140737488355328
  sh : Short s.ws
  wl : s.ws.length * 32 ≤ 140737488351232
  nl : (N.length + s.ws.length) * 32 ≤ 140737488351232
/-- what is left behind Commit's closure -/
def C1Out (w W w' : World) (ka kn kr : Nat) (s : Sv) (N : List Nt) (x : WTxn) (E : Int) (T : Tr) (V : List Ev) (SW : List Wa) : Prop :=
  Below w.heap.size w w' ∧ (E ≠ 0 → Below W.heap.size W w') ∧
  (E = 0 → ∃ ad nd cd al cl an cn ai ci aw cw aN cN, CI w w' ka kn kr (cstepS s x) (N ++ fireN s.ws V) (.slice ad nd cd) (.slice al s.ts.length cl) (.slice an T.ns.length cn) (.slice ai T.ss.length ci) (.slice aw SW.length cw) (.slice aN (N.length + (fireN s.ws V).length) cN))
theorem cshort_fire {ws : List Wa} (h : Short ws) (es : List Ev) : Short (fireW ws es) := fun x hx => h x (fireW_sub ws es x hx)
theorem appV_short {t : Tr} {x : WTxn} (hw : WfT t) (hp : x.p.length ≤ 140737488355328) : ShortE (appV t x) := by
  have hdl : ∀ p : List UInt8, (dirOf p).length ≤ 140737488355328 := fun p => by have := dirOf_len p; omega
  intro e he
  by_cases h : appE t x = 0
  · rw [appV, if_pos h, chgV] at he
    by_cases h2 : x.o = 2
    · rw [if_pos h2] at he
      obtain ⟨q, hq, he⟩ := List.mem_flatMap.1 he
      obtain ⟨n, hn, rfl⟩ := List.mem_map.1 hq
      have hn' := hw.slim n (List.mem_filter.1 hn).1
      simp only [List.mem_cons, List.not_mem_nil, or_false] at he
      rcases he with rfl | rfl
      · exact hn'.1
      · exact hdl _
    · rw [if_neg h2] at he
      by_cases h3 : x.o = 3
      · rw [if_pos h3] at he
        simp only [List.mem_cons, List.not_mem_nil, or_false] at he
        rcases he with rfl | rfl
        · exact hp
        · exact hdl _
      · rw [if_neg h3] at he
        by_cases h4 : x.o = 4
        · rw [if_pos h4] at he
          simp only [List.mem_cons, List.not_mem_nil, or_false] at he
          rcases he with rfl | rfl
          · exact hp
          · exact hdl _
        · rw [if_neg h4] at he
          by_cases h5 : x.o = 5
          · rw [if_pos h5] at he
            simp only [List.mem_cons, List.not_mem_nil, or_false] at he
            subst he
            exact hp
          · rw [if_neg h5] at he
            simp at he
  · rw [appV, if_neg h] at he
    simp at he
set_option maxRecDepth 10000 in
set_option maxHeartbeats 4000000 in
theorem commit1_any (w W : World) (ka kn kr : Nat) (s : Sv) (N : List Nt) (x : WTxn) (ad al an ai aw aN : Option Addr) (nd cd cl cn ci cw cN : Nat)
    (h : CI w W ka kn kr s N (.slice ad nd cd) (.slice al s.ts.length cl) (.slice an s.tr.ns.length cn) (.slice ai s.tr.ss.length ci) (.slice aw s.ws.length cw) (.slice aN N.length cN)) (hf : CFit s N x) :
    Calls Tryz.prog 18 #[txnV x, .pointer (some ⟨ka, 0, none⟩), .pointer (some ⟨kn, 0, none⟩)] W fun e w' => e = .returned (.int .i64 (appE s.tr x)) ∧ C1Out w W w' ka kn kr s N x (appE s.tr x) (appT s.tr x) (appV s.tr x) (stepW s x) := by
  have h1 := h.next (allocB W (.cells #[.int .i64 x.z, .int .i64 x.o, .int .i64 x.s, .string ⟨x.p.toArray⟩, .string ⟨x.d.toArray⟩, .int .i64 x.v, .int .i64 x.w] 53))
  have T1 := TAt.new W x
  have CA := hide (fun vn vs V (h2 : SeqV V vn s.tr.ns) (h3 : SeqV V vs s.tr.ss) => apply_any s.tr vn vs x V h2 h3 hf.wf hf.xd)
  have CFi := hide (fun v u V (h2 : SeqV V v s.ws) (h3 : SeqV V u (appV s.tr x)) => fire_any v u s.ws (appV s.tr x) V h2 h3 hf.sh (appV_short hf.wf hf.xp) hf.wl (app_short s.tr x).2.2)
  have hfl := fire_len (appV s.tr x) s.ws
  have CD := hide (fun v V (h2 : SeqV V v (fireW s.ws (appV s.tr x))) => drop_any v x.s (fireW s.ws (appV s.tr x)) V h2 (cshort_fire hf.sh _) (by have := hf.wl; omega))
  have HNL : Hid ((N.length + (fireN s.ws (appV s.tr x)).length) * 32 ≤ 140737488355328) := hide (by have := hf.nl; omega)
  have HSW : Hid ((x.o = 2 → stepW s x = dropW (fireW s.ws (appV s.tr x)) x.s) ∧ (x.o ≠ 2 → stepW s x = fireW s.ws (appV s.tr x))) := hide ⟨fun e => by simp [stepW, e], fun e => by simp [stepW, e]⟩
  have HC1 := hide h1
  have HBA := hide (allocB W (.cells #[.int .i64 x.z, .int .i64 x.o, .int .i64 x.s, .string ⟨x.p.toArray⟩, .string ⟨x.d.toArray⟩, .int .i64 x.v, .int .i64 x.w] 53))
  have HT1 := hide T1
  have HSS : Hid (cstepS s x = ⟨s.up, s.fs, s.id, s.ep, s.ts, s.dn, appT s.tr x, stepW s x⟩) := hide rfl
  obtain ⟨x0, x1, x2, x3, x4, x5, x6, x7, x8, x9⟩ := h1.box.cells
  have t0 := T1.c0
  have t1 := T1.c1
  have t2 := T1.c2
  have t3 := T1.c3
  have t4 := T1.c4
  have t5 := T1.c5
  have t6 := T1.c6
  unfold GivesA at CA
  clear h h1 T1 hf hfl
  obtain ⟨z, o, u, p, d, y, v⟩ := x
  generalize appE s.tr ⟨z, o, u, p, d, y, v⟩ = E at *
  generalize appT s.tr ⟨z, o, u, p, d, y, v⟩ = T at *
  generalize appV s.tr ⟨z, o, u, p, d, y, v⟩ = V at *
  generalize stepW s ⟨z, o, u, p, d, y, v⟩ = SW at *
  unfold txnV at *
  simp only at *
  go_enter Tryz.func18, Tryz.ntmps18
  go_upto_region 1 with fail
  generalize W.alloc (.cells #[.int .i64 z, .int .i64 o, .int .i64 u, .string ⟨p.toArray⟩, .string ⟨d.toArray⟩, .int .i64 y, .int .i64 v] 53) = W1 at *
  obtain ⟨kx, hkx⟩ : ∃ kx, W.heap.size = kx := ⟨_, rfl⟩
  rw [hkx]
  rw [hkx] at t0 t1 t2 t3 t4 t5 t6 HT1
  clear hkx
  go_wp2_with fail
  refine (unhide CA _ _ _ (unhide HC1).n.seq (unhide HC1).i.seq).mono ?_
  rintro e w2 ⟨vn2, vs2, ve2, rfl, on2, oi2, oe2, hb2⟩
  obtain ⟨bn, fn, rfl⟩ := own_slice' on2
  obtain ⟨bi, fi, rfl⟩ := own_slice' oi2
  obtain ⟨be, fe, rfl⟩ := own_slice' oe2
  have hal := allocB w2 (.cells #[.int .i64 T.z, .slice bn T.ns.length fn, .slice bi T.ss.length fi] 34)
  have HC2 := hide (((unhide HC1).next hb2).next hal)
  have HT2 := hide (((unhide HT1).next hb2).next hal)
  have HZ1 := (unhide HC1).below.size
  have HBE := hide (nnext (nnext (unhide HBA) hb2) hal)
  have HON := hide ((on2.next hal).lower HZ1)
  have HOI := hide ((oi2.next hal).lower HZ1)
  have HOE := hide (oe2.next hal)
  have HTB : Hid ((w2.alloc (.cells #[.int .i64 T.z, .slice bn T.ns.length fn, .slice bi T.ss.length fi] 34)).heap[w2.heap.size]? = some (.cells #[.int .i64 T.z, .slice bn T.ns.length fn, .slice bi T.ss.length fi] 34 (0, 0))) := hide (heap_alloc_new w2 _)
  clear on2 oi2 oe2 hb2 hal HZ1 HC1 HT1 CA x0 x1 x2 x3 x4 x5 x6 x7 x8 x9 t0 t1 t2 t3 t4 t5 t6
  go_upto_region 2 with fail
  generalize w2.heap.size = kt at *
  generalize w2.alloc (.cells #[.int .i64 T.z, .slice bn T.ns.length fn, .slice bi T.ss.length fi] 34) = W2 at *
  by_cases hE : E = 0
  · subst hE
    obtain ⟨x0, x1, x2, x3, x4, x5, x6, x7, x8, x9⟩ := (unhide HC2).box.cells
    go_wp2_with fail
    refine (unhide CFi _ _ _ (unhide HC2).o.seq (unhide HOE).seq).mono ?_
    rintro e w3 ⟨vn3, vl3, rfl, on3, ⟨g3, rfl, hg3, or3⟩, hb3⟩
    obtain ⟨bN, fN, rfl⟩ := own_slice' on3
    have HC3 := hide ((unhide HC2).next hb3)
    have hz2 := (unhide HC2).below.size
    have HON3 := hide ((unhide HON).next hb3)
    have HOI3 := hide ((unhide HOI).next hb3)
    have HT3 := (unhide HT2).next hb3
    have HTB3 := hide ((hb3.block kt (Array.getElem?_eq_some_iff.1 (unhide HTB)).1).trans (unhide HTB))
    have HNT3 := hide (on3.lower hz2)
    have HOL3 : Hid (OwnS w3 w.heap.size (.slice (some ⟨g3, 0, none⟩) (fireW s.ws V).length (s.ws.length + 1)) (fireW s.ws V)) := hide (.inr ⟨g3, _, rfl, by omega, or3⟩)
    have t1 := HT3.c1
    have t2 := HT3.c2
    simp only at t1 t2
    clear on3 hg3 or3 hb3 hz2 HC2 HON HOI HT2 HTB HOE CFi x0 x1 x2 x3 x4 x5 x6 x7 x8 x9 HT3
    by_cases ho : o = 2
    · have hsw := (unhide HSW).1 ho
      subst hsw
      subst ho
      go_wp2_with fail
      refine (unhide CD _ _ (unhide HOL3).seq).mono ?_
      rintro e w4 ⟨g4, rfl, hg4, or4, hb4⟩
      have hz3 := (unhide HC3).below.size
      have HCX := hide ((unhide HC3).next hb4)
      have HONX := hide ((unhide HON3).next hb4)
      have HOIX := hide ((unhide HOI3).next hb4)
      have HTBX := hide ((hb4.block kt (Array.getElem?_eq_some_iff.1 (unhide HTB3)).1).trans (unhide HTB3))
      have HNTX := hide ((unhide HNT3).next hb4)
      have HOLX : Hid (OwnS w4 w.heap.size (.slice (some ⟨g4, 0, none⟩) (dropW (fireW s.ws V) u).length ((fireW s.ws V).length + 1)) (dropW (fireW s.ws V) u)) := hide (.inr ⟨g4, _, rfl, by omega, or4⟩)
      clear hg4 or4 hb4 hz3 HC3 HON3 HOI3 HTB3 HNT3 HOL3 CD t1 t2
      have HTR := hide ((unhide HCX).tree (t' := T) (vn' := .slice bn T.ns.length fn) (vs' := .slice bi T.ss.length fi) (unhide HONX) (unhide HOIX) (unhide HOLX))
      obtain ⟨x0, x1, x2, x3, x4, x5, x6, x7, x8, x9⟩ := (unhide HCX).box.cells
      have xf6 := (unhide HCX).box.froz 6
      have xf7 := (unhide HCX).box.froz 7
      have xf8 := (unhide HCX).box.froz 8
      have xf9 := (unhide HCX).box.froz 9
      have k0 : w4.cell? ⟨kt, 0, none⟩ = some (.int .i64 T.z) := by simp [World.cell?, unhide HTBX]
      have k1 : w4.cell? ⟨kt, 1, none⟩ = some (.slice bn T.ns.length fn) := by simp [World.cell?, unhide HTBX]
      have k2 : w4.cell? ⟨kt, 2, none⟩ = some (.slice bi T.ss.length fi) := by simp [World.cell?, unhide HTBX]
      go_upto_region 8 with fail
      have HNT2 := hide (note_after (unhide HNTX) (unhide HCX).box (.int .i64 T.z) (.slice bn T.ns.length fn) (.slice bi T.ss.length fi) (.slice (some ⟨g4, 0, none⟩) (dropW (fireW s.ws V) u).length ((fireW s.ws V).length + 1)))
      generalize (((w4.setCell ⟨ka, 6, none⟩ (.int .i64 T.z)).setCell ⟨ka, 7, none⟩ (.slice bn T.ns.length fn)).setCell ⟨ka, 8, none⟩ (.slice bi T.ss.length fi)).setCell ⟨ka, 9, none⟩ (.slice (some ⟨g4, 0, none⟩) (dropW (fireW s.ws V) u).length ((fireW s.ws V).length + 1)) = W5 at *
      clear x0 x1 x2 x3 x4 x5 x6 x7 x8 x9 xf6 xf7 xf8 xf9 k0 k1 k2 HCX HONX HOIX HOLX HNTX HTBX
      have n0 : W5.cell? ⟨kn, 0, none⟩ = some (.slice aN N.length cN) := by simp [World.cell?, (unhide HTR).nb]
      go_wp2_with (at_builtin; refine wpList_notes rfl _ _ rfl w.heap.size w.heap.size (.slice aN N.length cN) _ N (fireN s.ws V) rfl rfl (unhide HTR).t (unhide HNT2) (unhide HNL) (unhide HTR).below.size ?_)
      intro a6 c6 w6 ho6 hg6
      have HFI := hide ((unhide HTR).note hg6 ho6)
      have m0 : w6.cell? ⟨kn, 0, none⟩ = some (.slice aN N.length cN) := hg6.cell n0 (fun e => own_box (unhide HTR).t (unhide HTR).nb (by decide) e.symm)
      have mf : w6.frozen? ⟨kn, 0, none⟩ = false := by
        have := (hg6.block kn (Array.getElem?_eq_some_iff.1 (unhide HTR).nb).1 (fun e => own_box (unhide HTR).t (unhide HTR).nb (by decide) e.symm)).trans (unhide HTR).nb
        simp [World.frozen?, this]
      clear ho6 hg6 n0
      go_wp2_with fail
      go_ret
      exact ⟨rfl, (unhide HFI).below, fun h => absurd rfl h, fun _ => ⟨ad, nd, cd, al, cl, bn, fn, bi, fi, (some ⟨g4, 0, none⟩), ((fireW s.ws V).length + 1), a6, c6, by rw [unhide HSS]; exact unhide HFI⟩⟩
    · have hsw := (unhide HSW).2 ho
      subst hsw
      have HCX := HC3
      have HONX := HON3
      have HOIX := HOI3
      have HTBX := HTB3
      have HNTX := HNT3
      have HOLX := HOL3
      clear HC3 HON3 HOI3 HTB3 HNT3 HOL3 CD
      have HTR := hide ((unhide HCX).tree (t' := T) (vn' := .slice bn T.ns.length fn) (vs' := .slice bi T.ss.length fi) (unhide HONX) (unhide HOIX) (unhide HOLX))
      obtain ⟨x0, x1, x2, x3, x4, x5, x6, x7, x8, x9⟩ := (unhide HCX).box.cells
      have xf6 := (unhide HCX).box.froz 6
      have xf7 := (unhide HCX).box.froz 7
      have xf8 := (unhide HCX).box.froz 8
      have xf9 := (unhide HCX).box.froz 9
      have k0 : w3.cell? ⟨kt, 0, none⟩ = some (.int .i64 T.z) := by simp [World.cell?, unhide HTBX]
      have k1 : w3.cell? ⟨kt, 1, none⟩ = some (.slice bn T.ns.length fn) := by simp [World.cell?, unhide HTBX]
      have k2 : w3.cell? ⟨kt, 2, none⟩ = some (.slice bi T.ss.length fi) := by simp [World.cell?, unhide HTBX]
      go_upto_region 8 with fail
      have HNT2 := hide (note_after (unhide HNTX) (unhide HCX).box (.int .i64 T.z) (.slice bn T.ns.length fn) (.slice bi T.ss.length fi) (.slice (some ⟨g3, 0, none⟩) (fireW s.ws V).length (s.ws.length + 1)))
      generalize (((w3.setCell ⟨ka, 6, none⟩ (.int .i64 T.z)).setCell ⟨ka, 7, none⟩ (.slice bn T.ns.length fn)).setCell ⟨ka, 8, none⟩ (.slice bi T.ss.length fi)).setCell ⟨ka, 9, none⟩ (.slice (some ⟨g3, 0, none⟩) (fireW s.ws V).length (s.ws.length + 1)) = W5 at *
      clear x0 x1 x2 x3 x4 x5 x6 x7 x8 x9 xf6 xf7 xf8 xf9 k0 k1 k2 HCX HONX HOIX HOLX HNTX HTBX
      have n0 : W5.cell? ⟨kn, 0, none⟩ = some (.slice aN N.length cN) := by simp [World.cell?, (unhide HTR).nb]
      go_wp2_with (at_builtin; refine wpList_notes rfl _ _ rfl w.heap.size w.heap.size (.slice aN N.length cN) _ N (fireN s.ws V) rfl rfl (unhide HTR).t (unhide HNT2) (unhide HNL) (unhide HTR).below.size ?_)
      intro a6 c6 w6 ho6 hg6
      have HFI := hide ((unhide HTR).note hg6 ho6)
      have m0 : w6.cell? ⟨kn, 0, none⟩ = some (.slice aN N.length cN) := hg6.cell n0 (fun e => own_box (unhide HTR).t (unhide HTR).nb (by decide) e.symm)
      have mf : w6.frozen? ⟨kn, 0, none⟩ = false := by
        have := (hg6.block kn (Array.getElem?_eq_some_iff.1 (unhide HTR).nb).1 (fun e => own_box (unhide HTR).t (unhide HTR).nb (by decide) e.symm)).trans (unhide HTR).nb
        simp [World.frozen?, this]
      clear ho6 hg6 n0
      go_wp2_with fail
      go_ret
      exact ⟨rfl, (unhide HFI).below, fun h => absurd rfl h, fun _ => ⟨ad, nd, cd, al, cl, bn, fn, bi, fi, (some ⟨g3, 0, none⟩), (s.ws.length + 1), a6, c6, by rw [unhide HSS]; exact unhide HFI⟩⟩
  · go_wp2_with fail
    go_ret
    exact ⟨rfl, (unhide HC2).below, fun _ => unhide HBE, fun h => absurd h hE⟩
end Go.Proofs.YtoacignhobchbaaGreatDoor

namespace Go.Proofs.YtoacignhobchbaaGreatDoor
open Go.RowKit

noncomputable def stP (p : Sv × List Nt) (x : WTxn) : Sv × List Nt := (cstepS p.1 x, p.2 ++ fireN p.1.ws (appV p.1.tr x))
noncomputable def csP (s : Sv) (xs : List WTxn) (i : Nat) : Sv × List Nt := (xs.take i).foldl stP (s, [])
theorem csP_zero (s : Sv) (xs : List WTxn) : csP s xs 0 = (s, []) := by simp [csP]
theorem csP_succ {s : Sv} {xs : List WTxn} {i : Nat} {x : WTxn} (h : xs[i]? = some x) : csP s xs (i + 1) = stP (csP s xs i) x := by
  unfold csP
  rw [take_more1 h, List.foldl_append]
  rfl
/-- so many can be done -/
structure Chn (s : Sv) (xs : List WTxn) (k : Nat) : Prop where
  le : k ≤ xs.length
  ok : ∀ i x, i < k → xs[i]? = some x → appE (csP s xs i).1.tr x = 0
  stop : ∀ x, xs[k]? = some x → appE (csP s xs k).1.tr x ≠ 0
structure CBase (s : Sv) (xs : List WTxn) : Prop where
  wf : WfT s.tr
  sh : Short s.ws
  wl : s.ws.length * 32 ≤ 140737488351232
  xd : ∀ x ∈ xs, x.d.length ≤ 140737488355328
  xp : ∀ x ∈ xs, x.p.length ≤ 140737488355328
theorem dropW_len (ws : List Wa) (s : Int) : (dropW ws s).length ≤ ws.length := List.length_filter_le _ _
theorem chn_at {s : Sv} {xs : List WTxn} {k : Nat} (hB : CBase s xs) (h : Chn s xs k) : ∀ i, i ≤ k →
    (WfT (csP s xs i).1.tr ∧ Short (csP s xs i).1.ws ∧ (csP s xs i).2.length + (csP s xs i).1.ws.length ≤ s.ws.length) ∧
    ((csP s xs i).1.up = s.up ∧ (csP s xs i).1.fs = s.fs ∧ (csP s xs i).1.id = s.id ∧ (csP s xs i).1.ep = s.ep ∧ (csP s xs i).1.ts = s.ts ∧ (csP s xs i).1.dn = s.dn) := by
  intro i
  induction i with
  | zero =>
    intro _
    rw [csP_zero]
    exact ⟨⟨hB.wf, hB.sh, by simp⟩, rfl, rfl, rfl, rfl, rfl, rfl⟩
  | succ i ih =>
    intro hi
    obtain ⟨⟨a1, a2, a3⟩, b1, b2, b3, b4, b5, b6⟩ := ih (by omega)
    obtain ⟨x, hx⟩ : ∃ x, xs[i]? = some x := ⟨_, List.getElem?_eq_getElem (by have := h.le; omega)⟩
    have h0 := h.ok i x (by omega) hx
    rw [csP_succ hx]
    generalize csP s xs i = c at *
    have hl := fire_len (appV c.1.tr x) c.1.ws
    refine ⟨⟨(app_good h0).1.wf, ?_, ?_⟩, b1, b2, b3, b4, b5, b6⟩
    · show Short (stepW c.1 x)
      unfold stepW
      split
      · exact fun y hy => cshort_fire a2 _ y (List.mem_filter.1 hy).1
      · exact cshort_fire a2 _
    · show (c.2 ++ fireN c.1.ws (appV c.1.tr x)).length + (stepW c.1 x).length ≤ s.ws.length
      have : (stepW c.1 x).length ≤ (fireW c.1.ws (appV c.1.tr x)).length := by
        unfold stepW
        split
        · exact dropW_len _ _
        · exact Nat.le_refl _
      rw [List.length_append]
      omega
theorem chn_fit {s : Sv} {xs : List WTxn} {k : Nat} (hB : CBase s xs) (h : Chn s xs k) {i : Nat} (hi : i ≤ k) {x : WTxn} (hx : xs[i]? = some x) : CFit (csP s xs i).1 (csP s xs i).2 x := by
  obtain ⟨⟨a1, a2, a3⟩, _⟩ := chn_at hB h i hi
  have hm := List.mem_of_getElem? hx
  have := hB.wl
  exact ⟨a1, hB.xd x hm, hB.xp x hm, a2, by omega, by omega⟩
end Go.Proofs.YtoacignhobchbaaGreatDoor
