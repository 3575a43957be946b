/-
  store.Take: the walk.
-/
import Derived.Test.YtoacignhobchbaaGreatDoorSUAM
namespace Go.Proofs.YtoacignhobchbaaGreatDoor
open Go.RowKit

/-- what Take makes of a server -/
def Took (s : Sv) (t : WTxn) (safe : Bool) (E : Int) (s' : Sv) : Prop :=
  (t.z ≤ lastZ s.ts ∧ E = 13 ∧ s' = sv0) ∨ (¬ t.z ≤ lastZ s.ts ∧ E ≠ 0 ∧ s' = sv0 ∧ ∃ d1, GivesD 67 (fun x => #[x, txnV t, .bool safe]) s.fs d1 E) ∨
  (¬ t.z ≤ lastZ s.ts ∧ E = 0 ∧ ∃ d1, s' = ⟨s.up, d1, s.id, s.ep, s.ts ++ [t], s.dn, s.tr, s.ws⟩ ∧ GivesF 67 (fun x => #[x, txnV t, .bool safe]) s.fs d1 0)
/-- a server is handed back, its rows spelt out, its sessions' away from block q -/
def TakeX (w : World) (q : Nat) (s : Sv) (E : Int) (e : Ending) (w' : World) : Prop :=
  ∃ ad nd cd al nl cl an nn cn ai ni ci aw nw cw, e = .returned (.tuple #[.agg #[.bool s.up, .slice ad nd cd, .int .i64 s.id, .int .i64 s.ep, .slice al nl cl, .int .i64 s.dn, .int .i64 s.tr.z, .slice an nn cn, .slice ai ni ci, .slice aw nw cw], .int .i64 E]) ∧
    Hid (DiskV w' (.slice ad nd cd) s.fs ∧ LogV w' (.slice al nl cl) s.ts ∧ SeqV w' (.slice an nn cn) s.tr.ns ∧ SeqV w' (.slice ai ni ci) s.tr.ss ∧ Away (.slice ai ni ci) q ∧ SeqV w' (.slice aw nw cw) s.ws ∧ Fresh w.heap.size (.slice ai ni ci)) ∧ Below w.heap.size w w'
theorem takeX_zero {w w' : World} {q : Nat} {E : Int} {e : Ending} (he : e = .returned (.tuple #[svZ, .int .i64 E])) (hb : Below w.heap.size w w') : TakeX w q sv0 E e w' :=
  ⟨none, 0, 0, none, 0, 0, none, 0, 0, none, 0, 0, none, 0, 0, he, hide ⟨DiskV.nil _, LogV.nil _, SeqV.nil _, SeqV.nil _, away_none _ _ _, SeqV.nil _, fresh_none _ _ _⟩, hb⟩
theorem fresh_ownS {α : Type} [Lay α] {W : World} {B : Nat} {v : Value} {xs : List α} (h : OwnS W B v xs) : Fresh B v := by
  intro b off n c e
  rcases h with ⟨rfl, _⟩ | ⟨g, cap, rfl, hB, _⟩
  · simp at e
  · simp only [Value.slice.injEq, Option.some.injEq, Addr.mk.injEq] at e
    omega
/-- as GivesV, and the sessions lie in new memory -/
def GivesVF (w : World) (s : Sv) (E : Int) (e : Ending) (w' : World) : Prop :=
  ∃ ad nd cd al nl cl an nn cn ai ni ci aw nw cw, e = .returned (.tuple #[.agg #[.bool s.up, .slice ad nd cd, .int .i64 s.id, .int .i64 s.ep, .slice al nl cl, .int .i64 s.dn, .int .i64 s.tr.z, .slice an nn cn, .slice ai ni ci, .slice aw nw cw], .int .i64 E]) ∧
    Hid (SvV w' (.agg #[.bool s.up, .slice ad nd cd, .int .i64 s.id, .int .i64 s.ep, .slice al nl cl, .int .i64 s.dn, .int .i64 s.tr.z, .slice an nn cn, .slice ai ni ci, .slice aw nw cw]) s ∧ Fresh w.heap.size (.slice ai ni ci)) ∧ Below w.heap.size w w'
theorem GivesVF.v {w w' : World} {s : Sv} {E : Int} {e : Ending} (h : GivesVF w s E e w') : GivesV w s E e w' := by
  obtain ⟨ad, nd, cd, al, nl, cl, an, nn, cn, ai, ni, ci, aw, nw, cw, he, hs, hb⟩ := h
  exact ⟨_, he, (unhide hs).1, hb⟩
theorem own_touch {α : Type} [Lay α] {F : Nat → Prop} {W V : World} {B : Nat} {v : Value} {xs : List α} (h : OwnS W B v xs) (ht : Touch F W V) (hf : ∀ k, v.ownBlock = some k → ¬ F k) : OwnS V B v xs := by
  rcases h with h | ⟨g, cap, rfl, hB, h⟩
  · exact .inl h
  · obtain ⟨rest, h1, h2⟩ := h
    have hlt := (Array.getElem?_eq_some_iff.1 h1).1
    exact .inr ⟨g, cap, rfl, hB, rest, (ht.block g hlt (hf g rfl)).trans h1, h2⟩
theorem own_ge {α : Type} [Lay α] {W : World} {B k : Nat} {v : Value} {xs : List α} (h : OwnS W B v xs) (hk : v.ownBlock = some k) : B ≤ k := by
  rcases h with ⟨rfl, _⟩ | ⟨g, cap, rfl, hB, _⟩
  · simp [Value.ownBlock] at hk
  · simp [Value.ownBlock] at hk; omega

set_option maxHeartbeats 1000000 in
/-- extended, of a copy that was made behind the world w -/
theorem ext_of_copy (s s' : Sv) (t : WTxn) (safe : Bool) (E : Int) (hT : Took s t safe E s') (hp : t.p.length ≤ 140737488355328) (hdl : t.d.length ≤ 140737488355328) (hn : s.ts.length ≤ 1000000000) (W w1 : World) (q : Nat) (hq : q < W.heap.size)
    (ad al an ai aw : Option Addr) (nd cd cl cn ci cw B1 B2 : Nat) (h1 : W.heap.size ≤ B1) (h2 : B1 ≤ B2) (od : OwnS w1 W.heap.size (.slice ad nd cd) s.fs) (_hd1 : ∀ k, (Value.slice ad nd cd).ownBlock = some k → k < B1)
    (ol : OwnS w1 B1 (.slice al s.ts.length cl) s.ts) (hl2 : ∀ k, (Value.slice al s.ts.length cl).ownBlock = some k → k < B2) (on : OwnS w1 B2 (.slice an s.tr.ns.length cn) s.tr.ns) (oi : OwnS w1 B2 (.slice ai s.tr.ss.length ci) s.tr.ss) (ow : OwnS w1 B2 (.slice aw s.ws.length cw) s.ws) (hb1 : Below W.heap.size W w1) :
    Calls Tryz.prog 29 #[.agg #[.bool s.up, .slice ad nd cd, .int .i64 s.id, .int .i64 s.ep, .slice al s.ts.length cl, .int .i64 s.dn, .int .i64 s.tr.z, .slice an s.tr.ns.length cn, .slice ai s.tr.ss.length ci, .slice aw s.ws.length cw], txnV t, .bool safe] w1 (TakeX W q s' E) := by
  have hd := seq_disk.1 od.seq
  have hl := seq_log.1 ol.seq
  rcases hT with ⟨hz, rfl, rfl⟩ | ⟨hz, hE, rfl, d1, G⟩ | ⟨hz, rfl, d1, rfl, G⟩
  · exact (ext_order s.up s.id s.ep s.dn s.tr.z s.fs s.ts t safe _ _ an ai aw _ cn _ ci _ cw w1 hd hl hz).mono fun e w' h => takeX_zero h.1 (nnext hb1 h.2)
  · exact (ext_err s.up s.id s.ep s.dn s.tr.z s.fs s.ts t safe _ _ an ai aw _ cn _ ci _ cw w1 hd hl hz E d1 hE G).mono fun e w' h => takeX_zero h.1 (nnext hb1 h.2)
  · refine (ext_ok s.up s.id s.ep s.dn s.tr.z s.fs s.ts t safe _ _ an ai aw _ cn _ ci _ cw w1 hd hl hz d1 W.heap.size hb1.size (ol.lower h1) hn hp hdl G).mono fun e w' h => ?_
    obtain ⟨a, n, c, a2, c2, he, hd', ol', _, ht⟩ := h
    have hs : ∀ {α : Type} [Lay α] {v : Value} {xs : List α}, OwnS w1 B2 v xs → OwnS w' B2 v xs := fun ho => own_touch ho ht (fun k hk hf => by have := own_ge ho hk; have := hl2 k hf; omega)
    refine ⟨a, n, c, a2, _, c2, an, _, cn, ai, _, ci, aw, _, cw, he, hide ⟨hd', seq_log.1 ol'.seq, (hs on).seq, (hs oi).seq, away_own oi (by omega), (hs ow).seq, (fresh_ownS oi).lower (by omega)⟩, ?_⟩
    exact hb1.trans (ht.below (B := W.heap.size) hb1.size (fun k hk => by have := own_ge ol hk; omega))

/-- the boxes of Take: as EB -/
theorem EB.zero {w W : World} {up : Bool} {id ep dn z : Int} {vd vl vn vs vw : Value} {x : WTxn} (h : EB w W up vd id ep vl dn z vn vs vw x) : w.heap.size + 1 + 1 < W.heap.size := h.r.lt

set_option maxRecDepth 10000 in
set_option maxHeartbeats 4000000 in
theorem stakeF_any (s s' : Sv) (v : Value) (t : WTxn) (safe : Bool) (E : Int) (w : World) (hv : SvV w v s) (hf : Fits s) (hT : Took s t safe E s') (hp : t.p.length ≤ 140737488355328) (hdl : t.d.length ≤ 140737488355328) (hn : s.ts.length ≤ 1000000000) :
    Calls Tryz.prog 16 #[v, txnV t, .bool safe] w (GivesVF w s' E) := by
  have CC := hide (fun W (hW : Below w.heap.size w W) => scopied_any s v W (hv.next hW) hf)
  have CX := hide (ext_of_copy s s' t safe E hT hp hdl hn)
  obtain ⟨ad, nd, cd, al, cl, an, cn, ai, ci, aw, cw, rfl, d1, l1, n1, s1, k1⟩ := hv.five
  clear hv d1 l1 n1 s1 k1 hf hT hp hdl hn
  obtain ⟨up, fs, id, ep, ts, dn, ⟨tz, tns, tss⟩, ws⟩ := s
  obtain ⟨z, o, s, p, d, y, u⟩ := t
  unfold txnV at *
  simp only at *
  go_enter Tryz.func16, Tryz.ntmps16
  go_upto_region 1 with fail
  have X := hide (EB.start w up id ep dn tz (.slice ad nd cd) (.slice al ts.length cl) (.slice an tns.length cn) (.slice ai tss.length ci) (.slice aw ws.length cw) ⟨z, o, s, p, d, y, u⟩)
  have HB0 := hide (EB.startB w (.cells #[.bool up, .slice ad nd cd, .int .i64 id, .int .i64 ep, .slice al ts.length cl, .int .i64 dn, .int .i64 tz, .slice an tns.length cn, .slice ai tss.length ci, .slice aw ws.length cw] 36) (.cells #[.int .i64 z, .int .i64 o, .int .i64 s, .string ⟨p.toArray⟩, .string ⟨d.toArray⟩, .int .i64 y, .int .i64 u] 53) (.cells #[.bool false, .slice none 0 0, .int .i64 0, .int .i64 0, .slice none 0 0, .int .i64 0, .int .i64 0, .slice none 0 0, .slice none 0 0, .slice none 0 0] 36))
  simp only at X
  generalize ((w.alloc (.cells #[.bool up, .slice ad nd cd, .int .i64 id, .int .i64 ep, .slice al ts.length cl, .int .i64 dn, .int .i64 tz, .slice an tns.length cn, .slice ai tss.length ci, .slice aw ws.length cw] 36)).alloc (.cells #[.int .i64 z, .int .i64 o, .int .i64 s, .string ⟨p.toArray⟩, .string ⟨d.toArray⟩, .int .i64 y, .int .i64 u] 53)).alloc (.cells #[.bool false, .slice none 0 0, .int .i64 0, .int .i64 0, .slice none 0 0, .int .i64 0, .int .i64 0, .slice none 0 0, .slice none 0 0, .slice none 0 0] 36) = W0 at *
  have K1 : ∀ V, Below W0.heap.size W0 V → V.cell? ⟨w.heap.size + 1, 0, none⟩ = some (.int .i64 z) ∧ V.cell? ⟨w.heap.size + 1, 1, none⟩ = some (.int .i64 o) ∧ V.cell? ⟨w.heap.size + 1, 2, none⟩ = some (.int .i64 s) ∧ V.cell? ⟨w.heap.size + 1, 3, none⟩ = some (.string ⟨p.toArray⟩) ∧ V.cell? ⟨w.heap.size + 1, 4, none⟩ = some (.string ⟨d.toArray⟩) ∧ V.cell? ⟨w.heap.size + 1, 5, none⟩ = some (.int .i64 y) ∧ V.cell? ⟨w.heap.size + 1, 6, none⟩ = some (.int .i64 u) := fun V hV => by
    have h := ((unhide X).next hV).x
    exact ⟨h.c0, h.c1, h.c2, h.c3, h.c4, h.c5, h.c6⟩
  have HK1 := hide K1
  obtain ⟨x0, x1, x2, x3, x4, x5, x6, x7, x8, x9⟩ := (unhide X).s.cells
  obtain ⟨e0, e1, e2, e3, e4, e5, e6⟩ := K1 W0 (Below.refl _ _)
  have hq := (unhide X).lt
  clear K1
  go_region_with (first
    | (go_at_call 17; refine (unhide CC _ (unhide HB0).drew).mono ?_; rintro e w1 ⟨bd, md, fd, bl, fl, bn, fn, bi, fi, bw, fw, B1, B2, rfl, h1, h2, od, hd1, ol, hl2, on, oi, ow, hb1⟩; have HB1 := hide (nbelow_drew hb1); obtain ⟨m0, m1, m2, m3, m4, m5, m6⟩ := unhide HK1 _ (unhide HB1); have CY := hide (unhide CX _ _ (w.heap.size + 1 + 1) (by show w.heap.size + 1 + 1 < W0.heap.size; omega) _ _ _ _ _ _ _ _ _ _ _ _ _ h1 h2 od hd1 ol hl2 on oi ow hb1); have X1 := hide ((unhide X).next (unhide HB1)); clear h1 h2 od hd1 ol hl2 on oi ow hb1)
    | (go_at_call 29; refine (unhide CY).mono ?_; rintro e w2 ⟨gd, nd2, cd2, gl, nl2, cl2, gn, nn2, cn2, gi, ni2, ci2, gw, nw2, cw2, rfl, H2, hb2⟩; have X2 := (unhide X).next (nbelow_drew hb2); have R2 := X2.r; obtain ⟨r0, r1, r2, r3, r4, r5, r6, r7, r8, r9⟩ := R2.cells; have rf0 := R2.froz 0; have rf1 := R2.froz 1; have rf2 := R2.froz 2; have rf3 := R2.froz 3; have rf4 := R2.froz 4; have rf5 := R2.froz 5; have rf6 := R2.froz 6; have rf7 := R2.froz 7; have rf8 := R2.froz 8; have rf9 := R2.froz 9; have D2 := hide R2.dumb; have HB2 := hide (nnext (unhide HB0) (nbelow_drew hb2)); clear hb2 R2 X2))
  all_goals
    go_wp2_with fail
    refine bodyPost_ret (v := .tuple #[.agg #[.bool s'.up, .slice gd nd2 cd2, .int .i64 s'.id, .int .i64 s'.ep, .slice gl nl2 cl2, .int .i64 s'.dn, .int .i64 s'.tr.z, .slice gn nn2 cn2, .slice gi ni2 ci2, .slice gw nw2 cw2], .int .i64 E]) (by simp [results, Tryz.results16, go_sem, r0, r1, r2, r3, r4, r5, r6, r7, r8, r9]) rfl ?_
    obtain ⟨g1, g2, g3, g4, g5, g6, g7⟩ := unhide H2
    exact ⟨gd, nd2, cd2, gl, nl2, cl2, gn, nn2, cn2, gi, ni2, ci2, gw, nw2, cw2, rfl, hide ⟨put10_new (s := s') (unhide D2) g1 g2 g3 g4 g5 g6, g7.lower (by show w.heap.size ≤ W0.heap.size; omega)⟩, put10_below (unhide HB2) (by omega) _ _ _ _ _ _ _ _ _ _⟩
end Go.Proofs.YtoacignhobchbaaGreatDoor
