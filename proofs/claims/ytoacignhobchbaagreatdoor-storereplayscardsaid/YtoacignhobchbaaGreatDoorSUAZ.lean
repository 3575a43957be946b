/-
  StoreReplays, plain: a log that was played; committing it in two parts.
  prep.Prepare: the walk.
  What the laws of prep share: makes.
-/
import Derived.Test.YtoacignhobchbaaGreatDoorSUAY
import Derived.Test.YtoacignhobchbaaGreatDoorSUAR
import Derived.Test.YtoacignhobchbaaGreatDoorSUAT
import Derived.Test.YtoacignhobchbaaGreatDoorSUAW
import Derived.Test.YtoacignhobchbaaGreatDoorSUAA
import Derived.Test.YtoacignhobchbaaGreatDoorSUK
import Derived.Deep.CutRange
import Derived.Deep.RegionHeld3
namespace Go.Proofs.YtoacignhobchbaaGreatDoor
open Go.RowKit

/-- the tree behind so many -/
noncomputable def trAt (m : List WTxn) (i : Nat) : Tr := (m.take i).foldl appT trNew
theorem trAt_zero (m : List WTxn) : trAt m 0 = trNew := by simp [trAt]
theorem trAt_succ {m : List WTxn} {i : Nat} {x : WTxn} (h : m[i]? = some x) : trAt m (i + 1) = appT (trAt m i) x := by
  unfold trAt
  rw [take_more1 h, List.foldl_append]
  rfl
theorem trAt_app (m : List WTxn) (x : WTxn) {i : Nat} (h : i ≤ m.length) : trAt (m ++ [x]) i = trAt m i := by
  unfold trAt
  rw [List.take_append_of_le_length h]
/-- a log that was played -/
structure Pld (m : List WTxn) : Prop where
  tkn : Tkn m
  ok : ∀ i x, m[i]? = some x → appE (trAt m i) x = 0
  z : ∀ (i : Nat) x, m[i]? = some x → x.z = i + 1
theorem pld_nil : Pld [] := ⟨⟨Logs.nil, by simp, by simp⟩, by simp, by simp⟩
theorem pld_snoc {m : List WTxn} {r : Rq} {x : WTxn} (h : Pld m) (hl : m.length < 40) (hp : prpE (trAt m m.length) (1 + m.length) r = 0) (hx : x = prpX (trAt m m.length) (1 + m.length) r) : Pld (m ++ [x]) := by
  have f := fits_plain hp
  rw [← hx] at f
  have hz : ∀ y ∈ m, 0 < y.z ∧ y.z < x.z := by
    intro y hy
    obtain ⟨i, hi, rfl⟩ := List.getElem_of_mem hy
    have := h.z i _ (List.getElem?_eq_getElem hi)
    rw [f.z, this]
    omega
  refine ⟨⟨⟨fun y hy => ?_, ?_⟩, by simp; omega, fun y hy => ?_⟩, fun i y hi => ?_, fun i y hi => ?_⟩
  · rcases List.mem_append.1 hy with hy | hy
    · exact h.tkn.log.good y hy
    · rw [List.mem_singleton.1 hy]; exact f.gd
  · rw [List.pairwise_append]
    refine ⟨h.tkn.log.rise, List.pairwise_singleton _ _, fun a ha b hb => ?_⟩
    rw [List.mem_singleton.1 hb]
    exact (hz a ha).2
  · rcases List.mem_append.1 hy with hy | hy
    · exact (hz y hy).1
    · rw [List.mem_singleton.1 hy, f.z]; omega
  · by_cases e : i < m.length
    · rw [List.getElem?_append_left e] at hi
      rw [trAt_app m x (by omega)]
      exact h.ok i y hi
    · rw [List.getElem?_append_right (by omega)] at hi
      have e0 : i - m.length = 0 := by
        have := (List.getElem?_eq_some_iff.1 hi).1
        simp at this
        omega
      rw [e0] at hi
      simp only [List.getElem?_cons_zero, Option.some.injEq] at hi
      subst hi
      rw [trAt_app m _ (by omega), show i = m.length by omega]
      exact f.app
  · by_cases e : i < m.length
    · rw [List.getElem?_append_left e] at hi
      exact h.z i y hi
    · rw [List.getElem?_append_right (by omega)] at hi
      have e0 : i - m.length = 0 := by
        have := (List.getElem?_eq_some_iff.1 hi).1
        simp at this
        omega
      rw [e0] at hi
      simp only [List.getElem?_cons_zero, Option.some.injEq] at hi
      subst hi
      rw [f.z]
      omega

/- committing, step by step -/
theorem fold_st (xs : List WTxn) : ∀ (s : Sv) (N : List Nt), xs.foldl stP (s, N) = ((xs.foldl stP (s, [])).1, N ++ (xs.foldl stP (s, [])).2) := by
  induction xs with
  | nil => intro s N; simp
  | cons x xs ih =>
    intro s N
    simp only [List.foldl_cons, stP]
    rw [ih, ih (N := [] ++ _)]
    simp
/-- another number of done ones -/
def setD (s : Sv) (n : Int) : Sv := ⟨s.up, s.fs, s.id, s.ep, s.ts, n, s.tr, s.ws⟩
theorem fold_setD (xs : List WTxn) : ∀ (s : Sv) (n : Int) (N : List Nt), xs.foldl stP (setD s n, N) = (setD (xs.foldl stP (s, N)).1 n, (xs.foldl stP (s, N)).2) := by
  induction xs with
  | nil => intro s n N; rfl
  | cons x xs ih =>
    intro s n N
    simp only [List.foldl_cons]
    exact ih (cstepS s x) n _
theorem fold_tr (xs : List WTxn) : ∀ (s : Sv) (N : List Nt), (xs.foldl stP (s, N)).1.tr = xs.foldl appT s.tr := by
  induction xs with
  | nil => intro s N; rfl
  | cons x xs ih =>
    intro s N
    simp only [List.foldl_cons]
    exact ih (cstepS s x) _
theorem csP_take (s : Sv) (m : List WTxn) {n i : Nat} (h : i ≤ n) : csP s (m.take n) i = csP s m i := by
  unfold csP
  rw [List.take_take, Nat.min_eq_left h]
/-- the second part, from the first one's server -/
theorem csP_part (s : Sv) (m : List WTxn) (n i : Nat) : (csP (setD (csP s m n).1 n) (m.drop n) i).1 = setD (csP s m (n + i)).1 n ∧ (csP s m (n + i)).2 = (csP s m n).2 ++ (csP (setD (csP s m n).1 n) (m.drop n) i).2 := by
  unfold csP
  rw [List.take_add, List.foldl_append, fold_setD]
  generalize (m.take n).foldl stP (s, []) = P
  obtain ⟨S, N⟩ := P
  rw [fold_st ((m.drop n).take i) S N]
  exact ⟨rfl, rfl⟩

/-- a server that took a played log, with watches -/
noncomputable def svW (m : List WTxn) (ws : List Wa) : Sv := ⟨true, [logF m], 0, epochD [], m, 0, trNew, ws⟩
theorem svW_tr (m : List WTxn) (ws : List Wa) (i : Nat) : (csP (svW m ws) m i).1.tr = trAt m i := by
  unfold csP trAt
  rw [fold_tr]
  rfl
theorem pld_good {m : List WTxn} (h : Pld m) {i : Nat} (hi : i ≤ m.length) : GoodT (trAt m i) := by
  cases i with
  | zero => rw [trAt_zero]; exact good_new
  | succ i =>
    obtain ⟨x, hx⟩ : ∃ x, m[i]? = some x := ⟨_, List.getElem?_eq_getElem (by omega)⟩
    rw [trAt_succ hx]
    exact (app_good (h.ok i x hx)).1
theorem pld_chn {m : List WTxn} (h : Pld m) (ws : List Wa) {n : Nat} (hn : n ≤ m.length) : Chn (svW m ws) (m.take n) n := by
  refine ⟨by simp; omega, fun i x hi hx => ?_, fun x hx => ?_⟩
  · rw [csP_take _ _ (by omega), svW_tr]
    rw [List.getElem?_take_of_lt hi] at hx
    exact h.ok i x hx
  · have := (List.getElem?_eq_some_iff.1 hx).1
    simp at this
    omega
theorem pld_chn2 {m : List WTxn} (h : Pld m) (ws : List Wa) (n : Nat) : Chn (setD (csP (svW m ws) m n).1 n) (m.drop n) (m.length - n) := by
  refine ⟨by simp, fun i x hi hx => ?_, fun x hx => ?_⟩
  · rw [(csP_part _ _ _ _).1]
    rw [List.getElem?_drop] at hx
    show appE (csP (svW m ws) m (n + i)).1.tr x = 0
    rw [svW_tr]
    exact h.ok _ x hx
  · have := (List.getElem?_eq_some_iff.1 hx).1
    simp at this
/-- what is asked of the watches -/
structure WaS (ws : List Wa) : Prop where
  sh : Short ws
  wl : ws.length * 32 ≤ 140737488351232
theorem pld_sizes {m : List WTxn} (h : Pld m) : ∀ x ∈ m, x.p.length ≤ 140737488355328 ∧ x.d.length ≤ 140737488355328 := fun x hx => by
  have hg := gdE_zero (h.tkn.log.good x hx)
  have h3 := fmB_le hg.2.2.2
  omega
theorem pld_base {m : List WTxn} (h : Pld m) {ws : List Wa} (hw : WaS ws) (n : Nat) : CBase (svW m ws) (m.take n) :=
  ⟨good_new.wf, hw.sh, hw.wl, fun x hx => (pld_sizes h x (List.mem_of_mem_take hx)).2, fun x hx => (pld_sizes h x (List.mem_of_mem_take hx)).1⟩
/-- a server that committed so many -/
noncomputable def svR (m : List WTxn) (ws : List Wa) (n : Nat) : Sv := setD (csP (svW m ws) m n).1 n
theorem svR_at {m : List WTxn} (h : Pld m) {ws : List Wa} (hw : WaS ws) {n : Nat} (hn : n ≤ m.length) :
    (svR m ws n).tr = trAt m n ∧ Short (svR m ws n).ws ∧ (svR m ws n).ws.length ≤ ws.length ∧ (svR m ws n).fs = [logF m] ∧ (svR m ws n).ts = m ∧ (svR m ws n).dn = n := by
  have hc := chn_at (pld_base h hw n) (pld_chn h ws hn) n (Nat.le_refl _)
  rw [csP_take _ _ (Nat.le_refl _)] at hc
  obtain ⟨⟨_, a2, a3⟩, _, b2, _, _, b5, _⟩ := hc
  exact ⟨svW_tr m ws n, a2, by have : (svW m ws).ws = ws := rfl; rw [this] at a3; show (csP (svW m ws) m n).1.ws.length ≤ _; omega, b2, b5, rfl⟩
theorem svR_base {m : List WTxn} (h : Pld m) {ws : List Wa} (hw : WaS ws) {n : Nat} (hn : n ≤ m.length) : CBase (svR m ws n) (m.drop n) := by
  obtain ⟨e1, e2, e3, _⟩ := svR_at h hw hn
  have := hw.wl
  exact ⟨by rw [e1]; exact (pld_good h hn).wf, e2, by omega, fun x hx => (pld_sizes h x (List.mem_of_mem_drop hx)).2, fun x hx => (pld_sizes h x (List.mem_of_mem_drop hx)).1⟩
theorem svR_fits {m : List WTxn} (h : Pld m) {ws : List Wa} (hw : WaS ws) {n : Nat} (hn : n ≤ m.length) : Fits (svR m ws n) := by
  obtain ⟨e1, e2, e3, e4, e5, _⟩ := svR_at h hw hn
  have g := pld_good h hn
  have hf := h.tkn.few
  have hwl := hw.wl
  have hr := recs_small h.tkn.log (by omega)
  refine ⟨by rw [e4]; simp, by rw [e4]; exact good_slim (good_one (by simp; omega)), by rw [e5]; omega, by rw [e5]; exact pld_sizes h, by rw [e1]; have := g.nod.few; omega, by rw [e1]; exact g.wf.slim, by rw [e1]; exact sasc_len g.ses, by omega, e2⟩
theorem svW_fits {m : List WTxn} (h : Pld m) {ws : List Wa} (hw : WaS ws) : Fits (svW m ws) := by
  have := svR_fits h hw (n := 0) (by omega)
  rwa [show svR m ws 0 = svW m ws from by unfold svR; rw [csP_zero]; rfl] at this

/- the two calls -/
/-- a server, so many notes, no fault; its rows as slices, its sessions in new memory -/
def GivesR2 (w : World) (s : Sv) (n : Nat) (e : Ending) (w' : World) : Prop :=
  ∃ ad nd cd al cl an cn ai ci aw cw aN cN, e = .returned (.tuple #[.agg #[.bool s.up, .slice ad nd cd, .int .i64 s.id, .int .i64 s.ep, .slice al s.ts.length cl, .int .i64 s.dn, .int .i64 s.tr.z, .slice an s.tr.ns.length cn, .slice ai s.tr.ss.length ci, .slice aw s.ws.length cw], .slice aN n cN, .int .i64 0]) ∧
    Hid (SvV w' (.agg #[.bool s.up, .slice ad nd cd, .int .i64 s.id, .int .i64 s.ep, .slice al s.ts.length cl, .int .i64 s.dn, .int .i64 s.tr.z, .slice an s.tr.ns.length cn, .slice ai s.tr.ss.length ci, .slice aw s.ws.length cw]) s ∧ Fresh w.heap.size (.slice ai s.tr.ss.length ci)) ∧ Below w.heap.size w w'
theorem gives_r2 {w w' : World} {s : Sv} {N : List Nt} {e : Ending} (h : GivesCm w s N 0 e w') (hf : FrS w e) : GivesR2 w s N.length e w' := by
  obtain ⟨v, aN, cN, rfl, hs, _, hb⟩ := h
  obtain ⟨ad, nd, cd, al, cl, an, cn, ai, ci, aw, cw, rfl, _⟩ := hs.five
  exact ⟨ad, nd, cd, al, cl, an, cn, ai, ci, aw, cw, aN, cN, rfl, hide ⟨hs, hf _ _ _ _ _ _ _ _ _ _ _ _ rfl⟩, hb⟩
theorem commit_n {m : List WTxn} (h : Pld m) {ws : List Wa} (hw : WaS ws) {n : Nat} (hn : n ≤ m.length) (v : Value) (w : World) (hv : SvV w v (svW m ws)) :
    Calls Tryz.prog 9 #[v, .int .i64 n] w (GivesR2 w (svR m ws n) (csP (svW m ws) m n).2.length) := by
  refine (scommit_runF (svW m ws) v 0 n n (m.take n) w hv (svW_fits h hw) rfl (by omega) hn (by simp [svW]) (pld_chn h ws hn) (pld_base h hw n)).mono fun e w' H => ?_
  have := H.1 (by simp; omega)
  rw [csP_take _ _ (Nat.le_refl _)] at this
  exact gives_r2 this.1 this.2
theorem commit_rest {m : List WTxn} (h : Pld m) {ws : List Wa} (hw : WaS ws) {n : Nat} (hn : n ≤ m.length) : ∃ N2 : Nat, (csP (svW m ws) m m.length).2.length = (csP (svW m ws) m n).2.length + N2 ∧
    ∀ v w, SvV w v (svR m ws n) → Calls Tryz.prog 9 #[v, .int .i64 m.length] w (GivesR2 w (svR m ws m.length) N2) := by
  obtain ⟨p1, p2⟩ := csP_part (svW m ws) m n (m.length - n)
  rw [show n + (m.length - n) = m.length by omega] at p1 p2
  refine ⟨(csP (svR m ws n) (m.drop n) (m.length - n)).2.length, by rw [p2, List.length_append]; rfl, fun v w hv => ?_⟩
  obtain ⟨e1, e2, e3, e4, e5, e6⟩ := svR_at h hw hn
  refine (scommit_runF (svR m ws n) v n m.length (m.length - n) (m.drop n) w hv (svR_fits h hw hn) e6 hn (by rw [e5]; omega) (by rw [e5, List.take_of_length_le (by simp)]) (pld_chn2 h ws n) (svR_base h hw hn)).mono fun e w' H => ?_
  have := H.1 (by simp)
  have e0 : (csP (svR m ws n) (m.drop n) (m.length - n)).1 = setD (csP (svW m ws) m m.length).1 n := p1
  rw [e0] at this
  exact gives_r2 this.1 this.2
end Go.Proofs.YtoacignhobchbaaGreatDoor

namespace Go.Proofs.YtoacignhobchbaaGreatDoor
open Go.RowKit

/-- what Prepare gives -/
def GivesP (w : World) (t : Tr) (z : Int) (r : Rq) (e : Ending) (w' : World) : Prop :=
  e = .returned (.tuple #[txnV (prpX t z r), .int .i64 (prpE t z r)]) ∧ Below w.heap.size w w'
theorem givesP_no {w w' : World} {t : Tr} {z : Int} {r : Rq} {E : Int} {e : Ending} (hE : prpE t z r = E) (h0 : E ≠ 0) (he : e = .returned (.tuple #[txnV t0, .int .i64 E])) (hb : Below w.heap.size w w') : GivesP w t z r e w' := by
  refine ⟨?_, hb⟩
  rw [prpX_no (by rw [hE]; exact h0), hE]
  exact he

theorem givesP_ok {w w' : World} {t : Tr} {z : Int} {r : Rq} {x : WTxn} {e : Ending} (hE : prpE t z r = 0) (hX : prpX t z r = x) (he : e = .returned (.tuple #[txnV x, .int .i64 0])) (hb : Below w.heap.size w w') : GivesP w t z r e w' := by
  refine ⟨?_, hb⟩
  rw [hE, hX]
  exact he

/-- the boxes of the tree, of the request, of the answer -/
structure PB (w W : World) (z : Int) (vn vs : Value) (r : Rq) : Prop where
  t : TR W w.heap.size z vn vs r
  a : TAt W (w.heap.size + 2) t0
  b : Below w.heap.size w W
section
variable {w W V : World} {z : Int} {vn vs : Value} {r : Rq}
theorem PB.next (h : PB w W z vn vs r) (hb : Below W.heap.size W V) : PB w V z vn vs r := ⟨h.t.next hb, h.a.next hb, nnext h.b hb⟩
theorem PB.new (w : World) (z : Int) (vn vs : Value) (r : Rq) : PB w (((w.alloc (.cells #[.int .i64 z, vn, vs] 34)).alloc (.cells #[.int .i64 r.o, .int .i64 r.s, .string ⟨r.p.toArray⟩, .string ⟨r.d.toArray⟩, .int .i64 r.v, .int .i64 r.f] 58)).alloc (.cells #[.int .i64 0, .int .i64 0, .int .i64 0, .string ⟨#[]⟩, .string ⟨#[]⟩, .int .i64 0, .int .i64 0] 53)) z vn vs r := by
  refine ⟨(TR.new w z vn vs r).next (allocB _ _), ?_, nnext (nnext (allocB _ _) (allocB _ _)) (allocB _ _)⟩
  have h := TAt.new ((w.alloc (.cells #[.int .i64 z, vn, vs] 34)).alloc (.cells #[.int .i64 r.o, .int .i64 r.s, .string ⟨r.p.toArray⟩, .string ⟨r.d.toArray⟩, .int .i64 r.v, .int .i64 r.f] 58)) t0
  rw [show ((w.alloc (.cells #[.int .i64 z, vn, vs] 34)).alloc (.cells #[.int .i64 r.o, .int .i64 r.s, .string ⟨r.p.toArray⟩, .string ⟨r.d.toArray⟩, .int .i64 r.v, .int .i64 r.f] 58)).heap.size = w.heap.size + 2 by simp] at h
  exact h
theorem PB.cells (h : PB w W z vn vs r) : (W.cell? ⟨w.heap.size + 2, 0, none⟩ = some (.int .i64 0) ∧ W.cell? ⟨w.heap.size + 2, 1, none⟩ = some (.int .i64 0) ∧ W.cell? ⟨w.heap.size + 2, 2, none⟩ = some (.int .i64 0) ∧ W.cell? ⟨w.heap.size + 2, 3, none⟩ = some (.string ⟨#[]⟩) ∧ W.cell? ⟨w.heap.size + 2, 4, none⟩ = some (.string ⟨#[]⟩) ∧ W.cell? ⟨w.heap.size + 2, 5, none⟩ = some (.int .i64 0) ∧ W.cell? ⟨w.heap.size + 2, 6, none⟩ = some (.int .i64 0)) := ⟨h.a.c0, h.a.c1, h.a.c2, h.a.c3, h.a.c4, h.a.c5, h.a.c6⟩
end
/-- a transaction stored whole -/
def put7 (W : World) (g : Nat) (t : WTxn) : World :=
  ((((((W.setCell ⟨g, 0, none⟩ (.int .i64 t.z)).setCell ⟨g, 1, none⟩ (.int .i64 t.o)).setCell ⟨g, 2, none⟩ (.int .i64 t.s)).setCell ⟨g, 3, none⟩ (.string ⟨t.p.toArray⟩)).setCell ⟨g, 4, none⟩ (.string ⟨t.d.toArray⟩)).setCell ⟨g, 5, none⟩ (.int .i64 t.v)).setCell ⟨g, 6, none⟩ (.int .i64 t.w)
theorem put7_below {w W : World} {g : Nat} (t : WTxn) (hb : Below w.heap.size w W) (hg : w.heap.size ≤ g) : Below w.heap.size w (put7 W g t) :=
  ((((((hb.setCell hg _).setCell hg _).setCell hg _).setCell hg _).setCell hg _).setCell hg _).setCell hg _

set_option maxRecDepth 20000 in
set_option maxHeartbeats 4000000 in
theorem prepare_any (t : Tr) (z : Int) (vn vs : Value) (r : Rq) (w : World) (hn : SeqV w vn t.ns) (hs : SeqV w vs t.ss) (hw : WfT t) (hp : r.p.length ≤ 140737488355328) (hd : r.d.length ≤ 140737488355328) (htab : Lib.TabIs Tryz.prog w "internal/strconv.uint64pow10" .u64 Lib.pow10Tab) :
    Calls Tryz.prog 14 #[.agg #[.int .i64 t.z, vn, vs], .int .i64 z, rqV r] w (GivesP w t z r) := by
  have CG := hide (fun W (hW : Below w.heap.size w W) => tgood_any t vn vs W (hn.next hW) (hs.next hW) hw)
  have CZ := hide (fun W => zgood_any z W)
  have CF := hide (fun (gt : GoodT t) g u (hu : Below w.heap.size w u) W hW hg hx => pfill_any t z vn vs r g u W gt (hn.next hu) (hs.next hu) hW hg hx hp hd (tab_kept htab hu))
  have CA := hide (fun W (hW : Below w.heap.size w W) => apply_any t vn vs (filX t z r) W (hn.next hW) (hs.next hW) hw (by have := filX_d t z r; omega))
  obtain ⟨na, nc, rfl⟩ := seq_slice hn
  obtain ⟨sa, sc, rfl⟩ := seq_slice hs
  obtain ⟨ro, rs, rp, rd, rv, rf⟩ := r
  unfold rqV at *
  simp only at *
  have P0 := hide (PB.new w t.z (.slice na t.ns.length nc) (.slice sa t.ss.length sc) ⟨ro, rs, rp, rd, rv, rf⟩)
  simp only at P0
  clear hn hs htab
  go_enter Tryz.func14, Tryz.ntmps14
  go_wp2_with fail
  refine (unhide CG _ (unhide P0).b).mono ?_
  rintro e w1 ⟨rfl, hb1⟩
  have P1 := hide ((unhide P0).next hb1)
  obtain ⟨b0, b1, b2, b3, b4, b5, b6, b7, b8⟩ := (unhide P1).t.nine
  obtain ⟨c0, c1, c2, c3, c4, c5, c6⟩ := (unhide P1).cells
  have f := (unhide P1).a.f
  have f0 := f 0
  have f1 := f 1
  have f2 := f 2
  have f3 := f 3
  have f4 := f 4
  have f5 := f 5
  have f6 := f 6
  simp only at b0 b1 b2 b3 b4 b5 b6 b7 b8
  clear hb1 P0 CG f
  cases hgd : goodT t with
  | false =>
    have HE : Hid (prpE t z ⟨ro, rs, rp, rd, rv, rf⟩ = 3) := hide (prp_head (by simp [headB, hgd]))
    clear hgd
    go_wp2_with fail
    exact bodyPost_ret (v := .tuple #[txnV t0, .int .i64 3]) (by simp [results, Tryz.results14, go_sem, txnV, t0, c0, c1, c2, c3, c4, c5, c6]) rfl (givesP_no (unhide HE) (by decide) rfl (put7_below t0 (unhide P1).b (by omega)))
  | true =>
    have HG := hide (goodT_true.1 hgd)
    have HGB := hide hgd
    clear hgd
    go_wp2_with fail
    refine (unhide CZ _).mono ?_
    rintro e w2 ⟨rfl, rfl⟩
    clear CZ
    cases hzd : zGood z with
    | false =>
      have HE : Hid (prpE t z ⟨ro, rs, rp, rd, rv, rf⟩ = 3) := hide (prp_head (by simp [headB, hzd]))
      clear hzd
      go_wp2_with fail
      exact bodyPost_ret (v := .tuple #[txnV t0, .int .i64 3]) (by simp [results, Tryz.results14, go_sem, txnV, t0, c0, c1, c2, c3, c4, c5, c6]) rfl (givesP_no (unhide HE) (by decide) rfl (put7_below t0 (unhide P1).b (by omega)))
    | true =>
      by_cases h1 : rs < 1
      · have HE : Hid (prpE t z ⟨ro, rs, rp, rd, rv, rf⟩ = 3) := hide (prp_head (by simp [headB]; intros; omega))
        have hd1 : decide (rs < 1) = true := decide_eq_true h1
        clear hzd h1
        go_wp2_with fail
        exact bodyPost_ret (v := .tuple #[txnV t0, .int .i64 3]) (by simp [results, Tryz.results14, go_sem, txnV, t0, c0, c1, c2, c3, c4, c5, c6]) rfl (givesP_no (unhide HE) (by decide) rfl (put7_below t0 (unhide P1).b (by omega)))
      · by_cases h2 : 2147483647 < rs
        · have HE : Hid (prpE t z ⟨ro, rs, rp, rd, rv, rf⟩ = 3) := hide (prp_head (by simp [headB]; intros; omega))
          have hd1 : decide (rs < 1) = false := decide_eq_false h1
          have hd2 : decide (2147483647 < rs) = true := decide_eq_true h2
          clear hzd h1 h2
          go_wp2_with fail
          exact bodyPost_ret (v := .tuple #[txnV t0, .int .i64 3]) (by simp [results, Tryz.results14, go_sem, txnV, t0, c0, c1, c2, c3, c4, c5, c6]) rfl (givesP_no (unhide HE) (by decide) rfl (put7_below t0 (unhide P1).b (by omega)))
        · have HH : Hid (headB t z ⟨ro, rs, rp, rd, rv, rf⟩ = true) := hide (headB_true.2 ⟨unhide HG, hzd, by simp only; omega, by simp only; omega⟩)
          have hd1 : decide (rs < 1) = false := decide_eq_false h1
          have hd2 : decide (2147483647 < rs) = false := decide_eq_false h2
          clear hzd h1 h2
          have X2 := hide (TAt.new w2 ⟨z, ro, rs, [], [], 0, 0⟩)
          have P2 := hide ((unhide P1).next (allocB w2 (.cells #[.int .i64 z, .int .i64 ro, .int .i64 rs, .string ⟨#[]⟩, .string ⟨#[]⟩, .int .i64 0, .int .i64 0] 53)))
          obtain ⟨d0, d1, d2, d3, d4, d5, d6, d7, d8⟩ := (unhide P2).t.nine
          simp only at d0 d1 d2 d3 d4 d5 d6 d7 d8
          clear c0 c1 c2 c3 c4 c5 c6 f0 f1 f2 f3 f4 f5 f6
          go_wp2_with fail
          refine (unhide CF (unhide HG) w2.heap.size w2 (unhide P1).b _ (allocB _ _) (Nat.le_refl _) (unhide X2)).mono ?_
          rintro e w3 ⟨rfl, hb3, hx3⟩
          have P3 := hide ((unhide P1).next hb3)
          have HX3 := hide hx3
          have PF : Hid (filE t ⟨ro, rs, rp, rd, rv, rf⟩ ≠ 0 → prpE t z ⟨ro, rs, rp, rd, rv, rf⟩ = filE t ⟨ro, rs, rp, rd, rv, rf⟩) := hide (fun h => prp_fill (unhide HH) h)
          have PA : Hid (filE t ⟨ro, rs, rp, rd, rv, rf⟩ = 0 → prpE t z ⟨ro, rs, rp, rd, rv, rf⟩ = appE t (filX t z ⟨ro, rs, rp, rd, rv, rf⟩)) := hide (fun h => prp_app (unhide HH) h)
          clear d0 d1 d2 d3 d4 d5 d6 d7 d8 b0 b1 b2 b3 b4 b5 b6 b7 b8 P2 X2 CF HG HGB HH hb3 hx3
          generalize filE t ⟨ro, rs, rp, rd, rv, rf⟩ = F at *
          by_cases hF : F = 0
          · have PE := hide (unhide PA hF)
            have X3 := hide (unhide HX3 hF)
            subst hF
            have KX : Hid (prpE t z ⟨ro, rs, rp, rd, rv, rf⟩ = 0 → prpX t z ⟨ro, rs, rp, rd, rv, rf⟩ = filX t z ⟨ro, rs, rp, rd, rv, rf⟩) := hide (fun h => prpX_ok h)
            unfold GivesA at CA
            clear PF PA HX3
            generalize appT t (filX t z ⟨ro, rs, rp, rd, rv, rf⟩) = T at *
            generalize appV t (filX t z ⟨ro, rs, rp, rd, rv, rf⟩) = V at *
            generalize appE t (filX t z ⟨ro, rs, rp, rd, rv, rf⟩) = E at *
            generalize filX t z ⟨ro, rs, rp, rd, rv, rf⟩ = x at *
            obtain ⟨xz, xo, xs, xp, xd, xv, xw⟩ := x
            unfold txnV at CA
            simp only at CA
            have x0 := (unhide X3).c0
            have x1 := (unhide X3).c1
            have x2 := (unhide X3).c2
            have x3 := (unhide X3).c3
            have x4 := (unhide X3).c4
            have x5 := (unhide X3).c5
            have x6 := (unhide X3).c6
            simp only at x0 x1 x2 x3 x4 x5 x6
            obtain ⟨e0, e1, e2, e3, e4, e5, e6, e7, e8⟩ := (unhide P3).t.nine
            obtain ⟨c0, c1, c2, c3, c4, c5, c6⟩ := (unhide P3).cells
            have f := (unhide P3).a.f
            have f0 := f 0
            have f1 := f 1
            have f2 := f 2
            have f3 := f 3
            have f4 := f 4
            have f5 := f 5
            have f6 := f 6
            simp only at e0 e1 e2 e3 e4 e5 e6 e7 e8
            clear f
            go_wp2_with fail
            refine (unhide CA _ (unhide P3).b).mono ?_
            rintro e w4 ⟨vn4, vs4, ve4, rfl, n4, s4, e4, hb4⟩
            obtain ⟨an, cn, rfl, _⟩ := n4.slice
            obtain ⟨ai, ci, rfl, _⟩ := s4.slice
            obtain ⟨ae, ce, rfl, _⟩ := e4.slice
            have P5 := hide ((unhide P3).next (nnext hb4 (allocB w4 (.cells #[.int .i64 T.z, .slice an T.ns.length cn, .slice ai T.ss.length ci] 34))))
            have X5 := hide ((unhide X3).next (nnext hb4 (allocB w4 (.cells #[.int .i64 T.z, .slice an T.ns.length cn, .slice ai T.ss.length ci] 34))))
            clear c0 c1 c2 c3 c4 c5 c6 f0 f1 f2 f3 f4 f5 f6 x0 x1 x2 x3 x4 x5 x6 e0 e1 e2 e3 e5 e6 e7 e8 hb4 n4 s4 e4 P3 X3 CA
            obtain ⟨c0, c1, c2, c3, c4, c5, c6⟩ := (unhide P5).cells
            have f := (unhide P5).a.f
            have f0 := f 0
            have f1 := f 1
            have f2 := f 2
            have f3 := f 3
            have f4 := f 4
            have f5 := f 5
            have f6 := f 6
            have x0 := (unhide X5).c0
            have x1 := (unhide X5).c1
            have x2 := (unhide X5).c2
            have x3 := (unhide X5).c3
            have x4 := (unhide X5).c4
            have x5 := (unhide X5).c5
            have x6 := (unhide X5).c6
            simp only at x0 x1 x2 x3 x4 x5 x6
            clear f
            by_cases hE : E = 0
            · subst hE
              have HX := hide (unhide KX (unhide PE))
              go_wp2_with fail
              exact bodyPost_ret (v := .tuple #[txnV ⟨xz, xo, xs, xp, xd, xv, xw⟩, .int .i64 0]) (by simp [results, Tryz.results14, go_sem, txnV, c0, c1, c2, c3, c4, c5, c6]) rfl (givesP_ok (unhide PE) (unhide HX) rfl (put7_below ⟨xz, xo, xs, xp, xd, xv, xw⟩ (unhide P5).b (by omega)))
            · have hEb : (E != 0) = true := by simpa using hE
              have HE := hide hE
              clear hE
              go_wp2_with fail
              exact bodyPost_ret (v := .tuple #[txnV t0, .int .i64 E]) (by simp [results, Tryz.results14, go_sem, txnV, t0, c0, c1, c2, c3, c4, c5, c6]) rfl (givesP_no (unhide PE) (unhide HE) rfl (put7_below t0 (unhide P5).b (by omega)))
          · have PE := hide (unhide PF hF)
            have hFb : (F != 0) = true := by simpa using hF
            have HF := hide hF
            clear PF PA HX3 hF CA
            obtain ⟨e0, e1, e2, e3, e4, e5, e6, e7, e8⟩ := (unhide P3).t.nine
            obtain ⟨c0, c1, c2, c3, c4, c5, c6⟩ := (unhide P3).cells
            have f := (unhide P3).a.f
            have f0 := f 0
            have f1 := f 1
            have f2 := f 2
            have f3 := f 3
            have f4 := f 4
            have f5 := f 5
            have f6 := f 6
            simp only at e0 e1 e2 e3 e4 e5 e6 e7 e8
            clear f
            go_wp2_with fail
            exact bodyPost_ret (v := .tuple #[txnV t0, .int .i64 F]) (by simp [results, Tryz.results14, go_sem, txnV, t0, c0, c1, c2, c3, c4, c5, c6]) rfl (givesP_no (unhide PE) (unhide HF) rfl (put7_below t0 (unhide P3).b (by omega)))

end Go.Proofs.YtoacignhobchbaaGreatDoor

namespace Go.Proofs.YtoacignhobchbaaGreatDoor
open Go.RowKit

theorem TAt.drew {W : World} {g : Nat} {x : WTxn} (h : TAt W g x) : TAt W.drew g x := h.next (Below.refl _ _).drew
theorem TAt.seven {W : World} {g : Nat} {x : WTxn} (h : TAt W g x) : W.cell? ⟨g, 0, none⟩ = some (.int .i64 x.z) ∧ W.cell? ⟨g, 1, none⟩ = some (.int .i64 x.o) ∧ W.cell? ⟨g, 2, none⟩ = some (.int .i64 x.s) ∧ W.cell? ⟨g, 3, none⟩ = some (.string ⟨x.p.toArray⟩) ∧ W.cell? ⟨g, 4, none⟩ = some (.string ⟨x.d.toArray⟩) ∧ W.cell? ⟨g, 5, none⟩ = some (.int .i64 x.v) ∧ W.cell? ⟨g, 6, none⟩ = some (.int .i64 x.w) := ⟨h.c0, h.c1, h.c2, h.c3, h.c4, h.c5, h.c6⟩
/-- a transaction in a box q of the call's own -/
structure PrX (W wx : World) (q : Nat) (x : WTxn) : Prop where
  box : TAt wx q x
  qb : W.heap.size ≤ q
  b : Below W.heap.size W wx
theorem PrX.next {W wx wy : World} {q : Nat} {x : WTxn} (h : PrX W wx q x) (hb : Below wx.heap.size wx wy) : PrX W wy q x := ⟨h.box.next hb, h.qb, nnext h.b hb⟩
theorem px_new {W w2 : World} (x : WTxn) (hb : Below W.heap.size W w2) : PrX W (w2.alloc (.cells #[.int .i64 x.z, .int .i64 x.o, .int .i64 x.s, .string ⟨x.p.toArray⟩, .string ⟨x.d.toArray⟩, .int .i64 x.v, .int .i64 x.w] 53)) w2.heap.size x :=
  ⟨TAt.new w2 x, hb.size, nnext hb (allocB _ _)⟩
theorem px_put {W w2 : World} {q : Nat} (x : WTxn) {y : WTxn} (hb : Below W.heap.size W w2) (hq : W.heap.size ≤ q) (hz : TAt w2 q y) : PrX W (put7 w2 q x) q x := by
  refine ⟨?_, hq, put7_below x hb hq⟩
  unfold TAt at hz ⊢
  unfold put7
  rw [block_set _ (block_set _ (block_set _ (block_set _ (block_set _ (block_set _ (block_set _ hz))))))]
  simp
theorem px_newF {W w2 : World} (z o s : Int) (p d : List UInt8) (v u : Int) (hb : Below W.heap.size W w2) : PrX W (w2.alloc (.cells #[.int .i64 z, .int .i64 o, .int .i64 s, .string ⟨p.toArray⟩, .string ⟨d.toArray⟩, .int .i64 v, .int .i64 u] 53)) w2.heap.size ⟨z, o, s, p, d, v, u⟩ := px_new ⟨z, o, s, p, d, v, u⟩ hb
theorem px_putF {W w2 : World} {q : Nat} (z o s : Int) (p d : List UInt8) (v u : Int) {y : WTxn} (hb : Below W.heap.size W w2) (hq : W.heap.size ≤ q) (hz : TAt w2 q y) :
    PrX W (((((((w2.setCell ⟨q, 0, none⟩ (.int .i64 z)).setCell ⟨q, 1, none⟩ (.int .i64 o)).setCell ⟨q, 2, none⟩ (.int .i64 s)).setCell ⟨q, 3, none⟩ (.string ⟨p.toArray⟩)).setCell ⟨q, 4, none⟩ (.string ⟨d.toArray⟩)).setCell ⟨q, 5, none⟩ (.int .i64 v)).setCell ⟨q, 6, none⟩ (.int .i64 u)) q ⟨z, o, s, p, d, v, u⟩ := px_put ⟨z, o, s, p, d, v, u⟩ hb hq hz
theorem zcells7 {W : World} {q : Nat} (h : TAt W q t0) : (W.cell? ⟨q, 0, none⟩ = some (.int .i64 0) ∧ W.cell? ⟨q, 1, none⟩ = some (.int .i64 0) ∧ W.cell? ⟨q, 2, none⟩ = some (.int .i64 0) ∧ W.cell? ⟨q, 3, none⟩ = some (.string ⟨#[]⟩) ∧ W.cell? ⟨q, 4, none⟩ = some (.string ⟨#[]⟩) ∧ W.cell? ⟨q, 5, none⟩ = some (.int .i64 0) ∧ W.cell? ⟨q, 6, none⟩ = some (.int .i64 0)) ∧ W.frozen? ⟨q, 0, none⟩ = false ∧ W.frozen? ⟨q, 1, none⟩ = false ∧ W.frozen? ⟨q, 2, none⟩ = false ∧ W.frozen? ⟨q, 3, none⟩ = false ∧ W.frozen? ⟨q, 4, none⟩ = false ∧ W.frozen? ⟨q, 5, none⟩ = false ∧ W.frozen? ⟨q, 6, none⟩ = false :=
  ⟨⟨h.c0, h.c1, h.c2, h.c3, h.c4, h.c5, h.c6⟩, h.f 0, h.f 1, h.f 2, h.f 3, h.f 4, h.f 5, h.f 6⟩
theorem TR.drew {W : World} {q : Nat} {z : Int} {vn vs : Value} {r : Rq} (h : TR W q z vn vs r) : TR W.drew q z vn vs r := h.next (Below.refl _ _).drew
theorem TR.fr {W : World} {q : Nat} {z : Int} {vn vs : Value} {r : Rq} (h : TR W q z vn vs r) (j : Nat) : W.frozen? ⟨q + 1, j, none⟩ = false := by
  have h1 := h.r
  simp [World.frozen?, h1]
end Go.Proofs.YtoacignhobchbaaGreatDoor
