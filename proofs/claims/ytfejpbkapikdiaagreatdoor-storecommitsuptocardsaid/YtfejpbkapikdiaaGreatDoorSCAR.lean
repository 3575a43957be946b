/-
  store.Commit: the walk.
  store.Commit, where it goes on: the walk.
  aviaryref.Commit, where it refuses: the walk.
  aviaryref.Commit: what it keeps, and its transactions: lemmas.
  The law WatchDropped: the walk.
  What aviaryref's Fire, SameNotes, SameWatches (of alike ones) and aviarylaw's watches answer; the law WatchFires: the walks.
  What aviarylaw's watches and aviaryref's SameWatches, SameNotes (of alike ones) answer: the walks.
  aviaryref.DropWatches: the walk (HAdr's, alone).
-/
import Derived.Test.YtfejpbkapikdiaaGreatDoorSCAI
import Derived.Test.YtfejpbkapikdiaaGreatDoorSCAQ
import Derived.Deep.Cut
import Derived.Deep.CutRange
import Derived.Test.YtfejpbkapikdiaaGreatDoorSCAH
import Derived.Laws.StructEq
import Derived.Deep.QuietTactic
namespace Go.Proofs.YtfejpbkapikdiaaGreatDoor
open Go.RowKit

/-- a server and notes are handed back -/
def GivesCm (w : World) (s : Sv) (N : List Nt) (E : Int) (e : Ending) (w' : World) : Prop := ∃ v a c, e = .returned (.tuple #[v, .slice a N.length c, .int .i64 E]) ∧ SvV w' v s ∧ SeqV w' (.slice a N.length c) N ∧ Below w.heap.size w w'
theorem givesCm_no {w w' : World} {E : Int} {e : Ending} (he : e = .returned (.tuple #[.agg #[.bool false, .slice none 0 0, .int .i64 0, .int .i64 0, .slice none 0 0, .int .i64 0, .int .i64 0, .slice none 0 0, .slice none 0 0, .slice none 0 0], .slice none 0 0, .int .i64 E])) (hb : Below w.heap.size w w') : GivesCm w sv0 [] E e w' :=
  ⟨_, none, 0, he, SvV.zero w', SeqV.nil w', hb⟩
theorem zero_put {w W : World} {k : Nat} (hb : Below w.heap.size w W) (hk : w.heap.size ≤ k) : Below w.heap.size w (put10 W k (.bool false) (.slice none 0 0) (.int .i64 0) (.int .i64 0) (.slice none 0 0) (.int .i64 0) (.int .i64 0) (.slice none 0 0) (.slice none 0 0) (.slice none 0 0)) := put10_below hb hk _ _ _ _ _ _ _ _ _ _
theorem logV_sub {w : World} {a : Option Addr} {c lo hi : Nat} {ts : List WTxn} (h : LogV w (.slice a ts.length c) ts) (h1 : lo ≤ hi) (h2 : hi ≤ ts.length) :
    (c = lo → LogV w (.slice a (hi - lo) 0) ((ts.drop lo).take (hi - lo))) ∧ (c ≠ lo → LogV w (.slice (Option.map (fun x => x.add (lo * 7)) a) (hi - lo) (c - lo)) ((ts.drop lo).take (hi - lo))) := by
  have hl : (ts.drop lo).length = ts.length - lo := by simp
  obtain ⟨d1, d2⟩ := h.drop (k := lo) (by omega)
  rw [← hl] at d1 d2
  exact ⟨fun e => (d1 e).take (by omega), fun e => (d2 e).take (by omega)⟩
theorem CI.done {w W : World} {ka kn kr : Nat} {s : Sv} {N : List Nt} {vd vl vn vs vw vN : Value} (h : CI w W ka kn kr s N vd vl vn vs vw vN) (n : Int) : CI w (W.setCell ⟨ka, 5, none⟩ (.int .i64 n)) ka kn kr ⟨s.up, s.fs, s.id, s.ep, s.ts, n, s.tr, s.ws⟩ N vd vl vn vs vw vN := by
  have b1 : Box10 (W.setCell ⟨ka, 5, none⟩ (.int .i64 n)) ka s.up vd s.id s.ep vl n s.tr.z vn vs vw := block_set (j := 5) _ h.box
  refine ⟨b1, (Below.heap_setCell _ _ _ _ (Ne.symm h.ne)).trans h.nb, own_setB h.d h.box (by decide) _, own_setB h.l h.box (by decide) _, own_setB h.n h.box (by decide) _, own_setB h.i h.box (by decide) _, own_setB h.o h.box (by decide) _, own_setB h.t h.box (by decide) _, h.below.setCell h.ha _, h.ha, h.hn, h.ne, h.r.other h.r1, h.r1, h.r2, h.hr⟩
theorem own_put {α : Type} [Lay α] {W : World} {B k : Nat} {v : Value} {xs : List α} {up : Bool} {id ep dn z : Int} {vd vl vn vs vw : Value} (h : OwnS W B v xs) (hb : Box10 W k up vd id ep vl dn z vn vs vw) (hne : 34 ≠ Lay.ty α) (x0 x1 x2 x3 x4 x5 x6 x7 x8 x9 : Value) : OwnS (put10 W k x0 x1 x2 x3 x4 x5 x6 x7 x8 x9) B v xs := by
  have hk := own_boxS h hb hne
  unfold put10
  exact (((((((((h.other hk _).other hk _).other hk _).other hk _).other hk _).other hk _).other hk _).other hk _).other hk _).other hk _
theorem CI.out {w W : World} {ka kn kr : Nat} {s : Sv} {N : List Nt} {vd vl vn vs vw vN : Value} (h : CI w W ka kn kr s N vd vl vn vs vw vN) (x0 x1 x2 x3 x4 x5 x6 x7 x8 x9 : Value) :
    SvV (put10 W kr x0 x1 x2 x3 x4 x5 x6 x7 x8 x9) (.agg #[.bool s.up, vd, .int .i64 s.id, .int .i64 s.ep, vl, .int .i64 s.dn, .int .i64 s.tr.z, vn, vs, vw]) s ∧ SeqV (put10 W kr x0 x1 x2 x3 x4 x5 x6 x7 x8 x9) vN N ∧ Below w.heap.size w (put10 W kr x0 x1 x2 x3 x4 x5 x6 x7 x8 x9) :=
  ⟨⟨vd, vl, vn, vs, vw, rfl, seq_disk.1 (own_put h.d h.r (by decide) _ _ _ _ _ _ _ _ _ _).seq, seq_log.1 (own_put h.l h.r (by decide) _ _ _ _ _ _ _ _ _ _).seq, (own_put h.n h.r (by decide) _ _ _ _ _ _ _ _ _ _).seq, (own_put h.i h.r (by decide) _ _ _ _ _ _ _ _ _ _).seq, (own_put h.o h.r (by decide) _ _ _ _ _ _ _ _ _ _).seq⟩, (own_put h.t h.r (by decide) _ _ _ _ _ _ _ _ _ _).seq, put10_below h.below h.hr _ _ _ _ _ _ _ _ _ _⟩

set_option maxRecDepth 10000 in
set_option maxHeartbeats 4000000 in
theorem scommit_no (s : Sv) (v : Value) (n : Int) (w : World) (hv : SvV w v s) (hr : s.dn < 0 ∨ n < s.dn ∨ (s.ts.length : Int) < n) :
    Calls Tryz.prog 4 #[v, .int .i64 n] w (GivesCm w sv0 [] 3) := by
  obtain ⟨ad, nd, cd, al, cl, an, cn, ai, ci, aw, cw, rfl, d1, l1, n1, s1, k1⟩ := hv.five
  clear hv d1 l1 n1 s1 k1
  obtain ⟨up, fs, id, ep, ts, dn, ⟨tz, tns, tss⟩, ws⟩ := s
  simp only at *
  go_enter Tryz.func4, Tryz.ntmps4
  go_upto_region 1 with fail
  have X1 := hide (CB.start w up id ep dn tz (.slice ad nd cd) (.slice al ts.length cl) (.slice an tns.length cn) (.slice ai tss.length ci) (.slice aw ws.length cw))
  generalize (w.alloc (.cells #[.bool up, .slice ad nd cd, .int .i64 id, .int .i64 ep, .slice al ts.length cl, .int .i64 dn, .int .i64 tz, .slice an tns.length cn, .slice ai tss.length ci, .slice aw ws.length cw] 34)).alloc (.cells #[.bool false, .slice none 0 0, .int .i64 0, .int .i64 0, .slice none 0 0, .int .i64 0, .int .i64 0, .slice none 0 0, .slice none 0 0, .slice none 0 0] 34) = W1 at *
  have x4 := (unhide X1).s.cells.2.2.2.2.1
  have x5 := (unhide X1).s.cells.2.2.2.2.2.1
  obtain ⟨r0, r1, r2, r3, r4, r5, r6, r7, r8, r9⟩ := (unhide X1).r.cells
  have rf0 := (unhide X1).r.froz 0
  have rf1 := (unhide X1).r.froz 1
  have rf2 := (unhide X1).r.froz 2
  have rf3 := (unhide X1).r.froz 3
  have rf4 := (unhide X1).r.froz 4
  have rf5 := (unhide X1).r.froz 5
  have rf6 := (unhide X1).r.froz 6
  have rf7 := (unhide X1).r.froz 7
  have rf8 := (unhide X1).r.froz 8
  have rf9 := (unhide X1).r.froz 9
  have HB := hide (zero_put (unhide X1).below (show w.heap.size ≤ w.heap.size + 1 by omega))
  unfold put10 at HB
  by_cases h1 : dn < 0
  · go_wp2_with fail
    exact bodyPost_ret (v := .tuple #[.agg #[.bool false, .slice none 0 0, .int .i64 0, .int .i64 0, .slice none 0 0, .int .i64 0, .int .i64 0, .slice none 0 0, .slice none 0 0, .slice none 0 0], .slice none 0 0, .int .i64 3]) (by simp [results, Tryz.results4, go_sem, r0, r1, r2, r3, r4, r5, r6, r7, r8, r9]) rfl (givesCm_no rfl (unhide HB))
  · by_cases h2 : n < dn
    · go_wp2_with fail
      exact bodyPost_ret (v := .tuple #[.agg #[.bool false, .slice none 0 0, .int .i64 0, .int .i64 0, .slice none 0 0, .int .i64 0, .int .i64 0, .slice none 0 0, .slice none 0 0, .slice none 0 0], .slice none 0 0, .int .i64 3]) (by simp [results, Tryz.results4, go_sem, r0, r1, r2, r3, r4, r5, r6, r7, r8, r9]) rfl (givesCm_no rfl (unhide HB))
    · have h3 : n > (ts.length : Int) := by omega
      go_wp2_with fail
      exact bodyPost_ret (v := .tuple #[.agg #[.bool false, .slice none 0 0, .int .i64 0, .int .i64 0, .slice none 0 0, .int .i64 0, .int .i64 0, .slice none 0 0, .slice none 0 0, .slice none 0 0], .slice none 0 0, .int .i64 3]) (by simp [results, Tryz.results4, go_sem, r0, r1, r2, r3, r4, r5, r6, r7, r8, r9]) rfl (givesCm_no rfl (unhide HB))
end Go.Proofs.YtfejpbkapikdiaaGreatDoor

namespace Go.Proofs.YtfejpbkapikdiaaGreatDoor
open Go.RowKit

/-- where Commit begins: a copy of the server in a box, no notes -/
theorem ci_start {w W1 w1 : World} {s : Sv} {ad al an ai aw : Option Addr} {nd cd cl cn ci cw : Nat} {bd bl bn bi bw : Option Addr} {md fd fl fn fi fw B1 B2 : Nat} (h : CB w W1 s.up (.slice ad nd cd) s.id s.ep (.slice al s.ts.length cl) s.dn s.tr.z (.slice an s.tr.ns.length cn) (.slice ai s.tr.ss.length ci) (.slice aw s.ws.length cw))
    (h1 : W1.heap.size ≤ B1) (h2 : B1 ≤ B2) (od : OwnS w1 W1.heap.size (.slice bd md fd) s.fs) (ol : OwnS w1 B1 (.slice bl s.ts.length fl) s.ts) (on : OwnS w1 B2 (.slice bn s.tr.ns.length fn) s.tr.ns) (oi : OwnS w1 B2 (.slice bi s.tr.ss.length fi) s.tr.ss) (ow : OwnS w1 B2 (.slice bw s.ws.length fw) s.ws) (hb : Below W1.heap.size W1 w1) :
    CI w ((w1.alloc (.cells #[.bool s.up, .slice bd md fd, .int .i64 s.id, .int .i64 s.ep, .slice bl s.ts.length fl, .int .i64 s.dn, .int .i64 s.tr.z, .slice bn s.tr.ns.length fn, .slice bi s.tr.ss.length fi, .slice bw s.ws.length fw] 34)).alloc (.cells #[.slice none 0 0] 35)) w1.heap.size (w1.heap.size + 1) (w.heap.size + 1) s [] (.slice bd md fd) (.slice bl s.ts.length fl) (.slice bn s.tr.ns.length fn) (.slice bi s.tr.ss.length fi) (.slice bw s.ws.length fw) (.slice none 0 0) := by
  have hz := h.below.size
  have hz1 := hb.size
  have hr := h.r.lt
  have a1 := allocB w1 (.cells #[.bool s.up, .slice bd md fd, .int .i64 s.id, .int .i64 s.ep, .slice bl s.ts.length fl, .int .i64 s.dn, .int .i64 s.tr.z, .slice bn s.tr.ns.length fn, .slice bi s.tr.ss.length fi, .slice bw s.ws.length fw] 34)
  have a2 := allocB (w1.alloc (.cells #[.bool s.up, .slice bd md fd, .int .i64 s.id, .int .i64 s.ep, .slice bl s.ts.length fl, .int .i64 s.dn, .int .i64 s.tr.z, .slice bn s.tr.ns.length fn, .slice bi s.tr.ss.length fi, .slice bw s.ws.length fw] 34)) (.cells #[.slice none 0 0] 35)
  have b := nnext a1 a2
  refine ⟨(Box10.new w1 s.up s.id s.ep s.dn s.tr.z _ _ _ _ _).next a2, ?_, (od.next b).lower hz, (ol.next b).lower (by omega), (on.next b).lower (by omega), (oi.next b).lower (by omega), (ow.next b).lower (by omega), .inl ⟨rfl, rfl⟩, nnext (nnext h.below hb) b, by omega, by omega, by omega, (h.r.next hb).next b, by omega, by omega, by omega⟩
  have := heap_alloc_new (w1.alloc (.cells #[.bool s.up, .slice bd md fd, .int .i64 s.id, .int .i64 s.ep, .slice bl s.ts.length fl, .int .i64 s.dn, .int .i64 s.tr.z, .slice bn s.tr.ns.length fn, .slice bi s.tr.ss.length fi, .slice bw s.ws.length fw] 34)) (.cells #[.slice none 0 0] 35)
  rwa [show (w1.alloc (.cells #[.bool s.up, .slice bd md fd, .int .i64 s.id, .int .i64 s.ep, .slice bl s.ts.length fl, .int .i64 s.dn, .int .i64 s.tr.z, .slice bn s.tr.ns.length fn, .slice bi s.tr.ss.length fi, .slice bw s.ws.length fw] 34)).heap.size = w1.heap.size + 1 by simp] at this

set_option maxRecDepth 10000 in
set_option maxHeartbeats 8000000 in
theorem scommit_run (s : Sv) (v : Value) (dN nN k : Nat) (xs : List WTxn) (w : World) (hv : SvV w v s) (hf : Fits s) (hdn : s.dn = dN) (h1 : dN ≤ nN) (h2 : nN ≤ s.ts.length) (hxs : xs = (s.ts.drop dN).take (nN - dN)) (hC : Chn s xs k) (hB : CBase s xs) :
    Calls Tryz.prog 4 #[v, .int .i64 nN] w fun e w' => (k = xs.length → GivesCm w ⟨(csP s xs k).1.up, (csP s xs k).1.fs, (csP s xs k).1.id, (csP s xs k).1.ep, (csP s xs k).1.ts, nN, (csP s xs k).1.tr, (csP s xs k).1.ws⟩ (csP s xs k).2 0 e w') ∧ (∀ x, xs[k]? = some x → GivesCm w sv0 [] (appE (csP s xs k).1.tr x) e w') := by
  have CC := hide (fun W (hW : Below w.heap.size w W) => scopied_any s v W (hv.next hW) hf)
  obtain ⟨ad, nd, cd, al, cl, an, cn, ai, ci, aw, cw, rfl, d1, l1, n1, s1, k1⟩ := hv.five
  have hxl : xs.length = nN - dN := by rw [hxs]; simp; omega
  have HLS := hide (fun W (hW : Below w.heap.size w W) => logV_sub (l1.next hW) h1 h2)
  rw [← hxs] at HLS
  have hcl : s.ts.length ≤ cl ∧ cl ≤ 9223372036854775807 := by
    rcases l1 with ⟨_, _, e, e0, hm⟩ | ⟨_, _, _, e, h3, h4, _⟩
    · simp only [Value.slice.injEq] at e; rw [e0] at e ⊢; simp only [maxLen] at hm; simp; omega
    · simp only [Value.slice.injEq] at e; simp only [maxLen] at h4; omega
  have hll : s.ts.length * 72 ≤ 140737488355328 := hf.l
  have HC := hide hC
  have HBs := hide hB
  have hkl := hC.le
  clear hv d1 l1 n1 s1 k1 hxs hC hB hf
  have hdi : ¬ s.dn < 0 := by omega
  have hni : ¬ (nN : Int) < s.dn := by omega
  have HDN := hide hdn
  clear hdn
  have hnl : ¬ (nN : Int) > (s.ts.length : Int) := by omega
  go_enter Tryz.func4, Tryz.ntmps4
  go_upto_region 1 with fail
  have X1 := hide (CB.start w s.up s.id s.ep s.dn s.tr.z (.slice ad nd cd) (.slice al s.ts.length cl) (.slice an s.tr.ns.length cn) (.slice ai s.tr.ss.length ci) (.slice aw s.ws.length cw))
  generalize (w.alloc (.cells #[.bool s.up, .slice ad nd cd, .int .i64 s.id, .int .i64 s.ep, .slice al s.ts.length cl, .int .i64 s.dn, .int .i64 s.tr.z, .slice an s.tr.ns.length cn, .slice ai s.tr.ss.length ci, .slice aw s.ws.length cw] 34)).alloc (.cells #[.bool false, .slice none 0 0, .int .i64 0, .int .i64 0, .slice none 0 0, .int .i64 0, .int .i64 0, .slice none 0 0, .slice none 0 0, .slice none 0 0] 34) = W1 at *
  obtain ⟨x0, x1, x2, x3, x4, x5, x6, x7, x8, x9⟩ := (unhide X1).s.cells
  go_upto_region 4 with fail
  go_wp2_with fail
  with_reducible refine (unhide CC _ (unhide X1).below).mono ?_
  rintro e w1 ⟨bd, md, fd, bl, fl, bn, fn, bi, fi, bw, fw, B1, B2, rfl, g1, g2, od, hd1, ol, hl2, on, oi, ow, hb1⟩
  have CI0 := hide (ci_start (unhide X1) g1 g2 od ol on oi ow hb1)
  have X2 := hide (((unhide X1).next hb1).next (nnext (allocB w1 (.cells #[.bool s.up, .slice bd md fd, .int .i64 s.id, .int .i64 s.ep, .slice bl s.ts.length fl, .int .i64 s.dn, .int .i64 s.tr.z, .slice bn s.tr.ns.length fn, .slice bi s.tr.ss.length fi, .slice bw s.ws.length fw] 34)) (allocB (w1.alloc (.cells #[.bool s.up, .slice bd md fd, .int .i64 s.id, .int .i64 s.ep, .slice bl s.ts.length fl, .int .i64 s.dn, .int .i64 s.tr.z, .slice bn s.tr.ns.length fn, .slice bi s.tr.ss.length fi, .slice bw s.ws.length fw] 34)) (.cells #[.slice none 0 0] 35))))
  clear g1 g2 od hd1 ol hl2 on oi ow hb1 X1 CC x0 x1 x2 x3 x4 x5 x6 x7 x8 x9
  go_upto_region 7 with fail
  generalize (w1.alloc (.cells #[.bool s.up, .slice bd md fd, .int .i64 s.id, .int .i64 s.ep, .slice bl s.ts.length fl, .int .i64 s.dn, .int .i64 s.tr.z, .slice bn s.tr.ns.length fn, .slice bi s.tr.ss.length fi, .slice bw s.ws.length fw] 34)).alloc (.cells #[.slice none 0 0] 35) = W2 at *
  generalize w1.heap.size + 1 = kn at *
  generalize w1.heap.size = ka at *
  have x4 := (unhide X2).s.cells.2.2.2.2.1
  rw [unhide HDN]
  go_cut [41, 42, 43] from 36 (fun t41 t42 t43 wx => ∃ la lcc, t41 = .slice la (nN - dN) lcc ∧ t42 = .int .i64 ((nN - dN : Nat) : Int) ∧ t43 = .int .i64 0 ∧ wx = W2 ∧ Hid (∀ W, Below w.heap.size w W → LogV W (.slice la (nN - dN) lcc) xs))
  case first =>
    by_cases hlc : cl = dN
    · subst hlc
      go_wp2_with fail
      all_goals go_meet
      all_goals exact ⟨_, _, rfl, rfl, rfl, rfl, hide fun W hW => (unhide HLS W hW).1 (by first | rfl | trivial)⟩
    · go_wp2_with fail
      all_goals go_meet
      all_goals exact ⟨_, _, rfl, rfl, rfl, rfl, hide fun W hW => (unhide HLS W hW).2 hlc⟩
  case rest =>
    obtain ⟨la, lcc, rfl, rfl, rfl, rfl, HLX⟩ := hcut
    rw [← hxl] at HLX ⊢
    have HXL := hide hxl
    have hx63 : xs.length ≤ 1000000000000000 := by omega
    clear HLS hxl h1 h2 hcl hll hdi hni hnl X2 x4
    go_wp2_with fail
    go_loopg [43] xs.length (fun kx s43 wr => ∃ i : Nat, s43 = .int .i64 i ∧ i ≤ k ∧ xs.length - i ≤ kx ∧ Hid (∃ ad nd cd al cl an cn ai ci aw cw aN cN, CI w wr ka kn (w.heap.size + 1) (csP s xs i).1 (csP s xs i).2 (.slice ad nd cd) (.slice al (csP s xs i).1.ts.length cl) (.slice an (csP s xs i).1.tr.ns.length cn) (.slice ai (csP s xs i).1.tr.ss.length ci) (.slice aw (csP s xs i).1.ws.length cw) (.slice aN (csP s xs i).2.length cN)))
    case atStart => exact ⟨0, rfl, Nat.zero_le _, Nat.le_refl _, hide (by rw [csP_zero]; exact ⟨_, _, _, _, _, _, _, _, _, _, _, _, _, unhide CI0⟩)⟩
    case round =>
      obtain ⟨i, rfl, hi, hgi, HI⟩ := hrel
      by_cases hlt : i < xs.length
      · obtain ⟨x, hx⟩ : ∃ x, xs[i]? = some x := ⟨_, List.getElem?_eq_getElem hlt⟩
        obtain ⟨ead, eend, ecd, eal, ecl, ean, ecn, eai, eci, eaw, ecw, eaN, ecN, hci⟩ := unhide HI
        obtain ⟨b, o, c, he, hb, q, hq9⟩ := log_row (unhide HLX wr hci.below) hx
        simp only [Value.slice.injEq] at he
        obtain ⟨rfl, he2, rfl⟩ := he
        clear he2 hq9
        have e0 := q.z hx
        have e1 := q.o hx
        have e2 := q.s hx
        have e3 := q.p hx
        have e4 := q.d hx
        have e5 := q.v hx
        have e6 := q.w hx
        have hii : (i : Int) < (xs.length : Int) := by omega
        have hal := allocB wr (.cells #[.int .i64 x.z, .int .i64 x.o, .int .i64 x.s, .string ⟨x.p.toArray⟩, .string ⟨x.d.toArray⟩, .int .i64 x.v, .int .i64 x.w] 45)
        have HC1 := hide (commit1_any w _ ka kn (w.heap.size + 1) (csP s xs i).1 (csP s xs i).2 x ead eal ean eai eaw eaN eend ecd ecl ecn eci ecw ecN (hci.next hal) (chn_fit (unhide HBs) (unhide HC) hi hx))
        have HT1 := TAt.new wr x
        have HX := hide hx
        have HR0 := hide (hci.r.next hal)
        have HB1 := hide (nnext hci.below hal)
        have t0 := HT1.c0
        have t1 := HT1.c1
        have t2 := HT1.c2
        have t3 := HT1.c3
        have t4 := HT1.c4
        have t5 := HT1.c5
        have t6 := HT1.c6
        clear q hb hx hal HT1 hci HI
        obtain ⟨z, op, u, p, d, y, vv⟩ := x
        unfold txnV at HC1
        simp only at e0 e1 e2 e3 e4 e5 e6 t0 t1 t2 t3 t4 t5 t6
        go_upto_region 10 with fail
        generalize wr.alloc (.cells #[.int .i64 z, .int .i64 op, .int .i64 u, .string ⟨p.toArray⟩, .string ⟨d.toArray⟩, .int .i64 y, .int .i64 vv] 45) = W6 at *
        generalize wr.heap.size = kx at *
        clear e0 e1 e2 e3 e4 e5 e6
        go_wp2_with fail
        refine (unhide HC1).mono ?_
        rintro e w7 ⟨rfl, hout⟩
        have HO := hide hout
        clear HC1 hout t0 t1 t2 t3 t4 t5 t6
        have HX' := unhide HX
        obtain ⟨E, hE⟩ : ∃ E, appE (csP s xs i).1.tr ⟨z, op, u, p, d, y, vv⟩ = E := ⟨_, rfl⟩
        rw [hE] at HO
        rw [hE]
        by_cases hik : i < k
        · obtain rfl : E = 0 := by rw [← hE]; exact (unhide HC).ok i _ hik HX'
          have HIN : Hid (∃ ad nd cd al cl an cn ai ci aw cw aN cN, CI w w7 ka kn (w.heap.size + 1) (csP s xs (i + 1)).1 (csP s xs (i + 1)).2 (.slice ad nd cd) (.slice al (csP s xs (i + 1)).1.ts.length cl) (.slice an (csP s xs (i + 1)).1.tr.ns.length cn) (.slice ai (csP s xs (i + 1)).1.tr.ss.length ci) (.slice aw (csP s xs (i + 1)).1.ws.length cw) (.slice aN (csP s xs (i + 1)).2.length cN)) := hide (by
            rw [csP_succ HX']
            simp only [stP, List.length_append]
            exact (unhide HO).2.2 rfl)
          clear HO hE HX'
          go_wp2_with fail
          go_roundg (xs.length - (i + 1))
          case measure => omega
          case rel => exact ⟨i + 1, rfl, by omega, Nat.le_refl _, HIN⟩
        · obtain rfl : i = k := by omega
          have hE0 : E ≠ 0 := by rw [← hE]; exact (unhide HC).stop _ HX'
          have HR7 := (unhide HR0).next ((unhide HO).2.1 hE0)
          have HBw := hide (zero_put (unhide HO).1 (show w.heap.size ≤ w.heap.size + 1 by omega))
          unfold put10 at HBw
          obtain ⟨r0, r1, r2, r3, r4, r5, r6, r7, r8, r9⟩ := HR7.cells
          have rf0 := HR7.froz 0
          have rf1 := HR7.froz 1
          have rf2 := HR7.froz 2
          have rf3 := HR7.froz 3
          have rf4 := HR7.froz 4
          have rf5 := HR7.froz 5
          have rf6 := HR7.froz 6
          have rf7 := HR7.froz 7
          have rf8 := HR7.froz 8
          have rf9 := HR7.froz 9
          have HE := hide hE
          clear HR7 HO HR0 hE HX'
          go_wp2_with fail
          refine bodyPost_ret (v := .tuple #[.agg #[.bool false, .slice none 0 0, .int .i64 0, .int .i64 0, .slice none 0 0, .int .i64 0, .int .i64 0, .slice none 0 0, .slice none 0 0, .slice none 0 0], .slice none 0 0, .int .i64 E]) (by simp [results, Tryz.results4, go_sem, r0, r1, r2, r3, r4, r5, r6, r7, r8, r9]) rfl ?_
          refine ⟨fun h => by omega, fun x' hx' => ?_⟩
          rw [unhide HX] at hx'
          cases hx'
          rw [unhide HE]
          exact givesCm_no rfl (unhide HBw)
      · obtain rfl : i = k := by omega
        have hik : i = xs.length := by omega
        obtain ⟨ead, eend, ecd, eal, ecl, ean, ecn, eai, eci, eaw, ecw, eaN, ecN, hci⟩ := unhide HI
        obtain ⟨S, hS⟩ : ∃ S, (csP s xs i).1 = S := ⟨_, rfl⟩
        obtain ⟨NN, hNN⟩ : ∃ NN, (csP s xs i).2 = NN := ⟨_, rfl⟩
        rw [hS, hNN] at hci
        have HD := hide (hci.done nN)
        have x5 := hci.box.cells.2.2.2.2.2.1
        have xf5 := hci.box.froz 5
        have HS := hide hS
        have HNN := hide hNN
        have HIK := hide hik
        have hki : ¬ ((i : Int) < (xs.length : Int)) := by omega
        clear hci HI hS hNN hik
        go_upto_region 15 with fail
        generalize wr.setCell ⟨ka, 5, none⟩ (.int .i64 nN) = W8 at *
        clear x5 xf5
        obtain ⟨x0, x1, x2, x3, x4, x5, x6, x7, x8, x9⟩ := (unhide HD).box.cells
        have n0 : W8.cell? ⟨kn, 0, none⟩ = some (.slice eaN NN.length ecN) := by simp [World.cell?, (unhide HD).nb]
        obtain ⟨r0, r1, r2, r3, r4, r5, r6, r7, r8, r9⟩ := (unhide HD).r.cells
        have rf0 := (unhide HD).r.froz 0
        have rf1 := (unhide HD).r.froz 1
        have rf2 := (unhide HD).r.froz 2
        have rf3 := (unhide HD).r.froz 3
        have rf4 := (unhide HD).r.froz 4
        have rf5 := (unhide HD).r.froz 5
        have rf6 := (unhide HD).r.froz 6
        have rf7 := (unhide HD).r.froz 7
        have rf8 := (unhide HD).r.froz 8
        have rf9 := (unhide HD).r.froz 9
        have HOUT := hide ((unhide HD).out (.bool S.up) (.slice ead eend ecd) (.int .i64 S.id) (.int .i64 S.ep) (.slice eal S.ts.length ecl) (.int .i64 nN) (.int .i64 S.tr.z) (.slice ean S.tr.ns.length ecn) (.slice eai S.tr.ss.length eci) (.slice eaw S.ws.length ecw))
        have hl1 := (unhide HD).box.lt
        have hl2 := (unhide HD).r.lt
        have HB8 := hide (unhide HD).below
        have hne1 : w.heap.size + 1 ≠ ka := (unhide HD).r1
        have hne2 : w.heap.size + 1 ≠ kn := (unhide HD).r2
        have hne3 : ka ≠ w.heap.size + 1 := fun h => hne1 h.symm
        have hne4 : kn ≠ w.heap.size + 1 := fun h => hne2 h.symm
        clear HD
        simp only at x0 x1 x2 x3 x4 x5 x6 x7 x8 x9
        unfold put10 at HOUT
        go_region
        all_goals go_wp2_with fail
        all_goals refine bodyPost_ret (v := .tuple #[.agg #[.bool S.up, .slice ead eend ecd, .int .i64 S.id, .int .i64 S.ep, .slice eal S.ts.length ecl, .int .i64 nN, .int .i64 S.tr.z, .slice ean S.tr.ns.length ecn, .slice eai S.tr.ss.length eci, .slice eaw S.ws.length ecw], .slice eaN NN.length ecN, .int .i64 0]) (by simp [results, Tryz.results4, go_sem, r0, r1, r2, r3, r4, r5, r6, r7, r8, r9]) rfl ?_
        all_goals rw [unhide HS, unhide HNN]
        all_goals refine fun _ => ⟨_, _, _, rfl, ?_, ?_, ?_⟩
        all_goals first
          | exact (unhide HOUT).1.next ((Below.refl _ _).drew)
          | exact (unhide HOUT).2.1.next ((Below.refl _ _).drew)
          | exact (unhide HOUT).2.2.drew
          | exact (unhide HOUT).1
          | exact (unhide HOUT).2.1
          | exact (unhide HOUT).2.2
end Go.Proofs.YtfejpbkapikdiaaGreatDoor

namespace Go.Proofs.YtfejpbkapikdiaaGreatDoor
open Go.RowKit

set_option maxRecDepth 10000 in
set_option maxHeartbeats 4000000 in
theorem rcommit_no (s : Sv) (v : Value) (n : Int) (w : World) (hv : SvV w v s) (hr : s.dn < 0 ∨ n < s.dn ∨ (s.ts.length : Int) < n) :
    Calls Tryz.prog 6 #[v, .int .i64 n] w (GivesCm w sv0 [] 3) := by
  obtain ⟨ad, nd, cd, al, cl, an, cn, ai, ci, aw, cw, rfl, d1, l1, n1, s1, k1⟩ := hv.five
  clear hv d1 l1 n1 s1 k1
  obtain ⟨up, fs, id, ep, ts, dn, ⟨tz, tns, tss⟩, ws⟩ := s
  simp only at *
  go_enter Tryz.func6, Tryz.ntmps6
  go_upto_region 1 with fail
  have X1 := hide (CB.start w up id ep dn tz (.slice ad nd cd) (.slice al ts.length cl) (.slice an tns.length cn) (.slice ai tss.length ci) (.slice aw ws.length cw))
  generalize (w.alloc (.cells #[.bool up, .slice ad nd cd, .int .i64 id, .int .i64 ep, .slice al ts.length cl, .int .i64 dn, .int .i64 tz, .slice an tns.length cn, .slice ai tss.length ci, .slice aw ws.length cw] 34)).alloc (.cells #[.bool false, .slice none 0 0, .int .i64 0, .int .i64 0, .slice none 0 0, .int .i64 0, .int .i64 0, .slice none 0 0, .slice none 0 0, .slice none 0 0] 34) = W1 at *
  have x4 := (unhide X1).s.cells.2.2.2.2.1
  have x5 := (unhide X1).s.cells.2.2.2.2.2.1
  obtain ⟨r0, r1, r2, r3, r4, r5, r6, r7, r8, r9⟩ := (unhide X1).r.cells
  have rf0 := (unhide X1).r.froz 0
  have rf1 := (unhide X1).r.froz 1
  have rf2 := (unhide X1).r.froz 2
  have rf3 := (unhide X1).r.froz 3
  have rf4 := (unhide X1).r.froz 4
  have rf5 := (unhide X1).r.froz 5
  have rf6 := (unhide X1).r.froz 6
  have rf7 := (unhide X1).r.froz 7
  have rf8 := (unhide X1).r.froz 8
  have rf9 := (unhide X1).r.froz 9
  have HB := hide (zero_put (unhide X1).below (show w.heap.size ≤ w.heap.size + 1 by omega))
  unfold put10 at HB
  by_cases h1 : dn < 0
  · go_wp2_with fail
    exact bodyPost_ret (v := .tuple #[.agg #[.bool false, .slice none 0 0, .int .i64 0, .int .i64 0, .slice none 0 0, .int .i64 0, .int .i64 0, .slice none 0 0, .slice none 0 0, .slice none 0 0], .slice none 0 0, .int .i64 3]) (by simp [results, Tryz.results6, go_sem, r0, r1, r2, r3, r4, r5, r6, r7, r8, r9]) rfl (givesCm_no rfl (unhide HB))
  · by_cases h2 : n < dn
    · go_wp2_with fail
      exact bodyPost_ret (v := .tuple #[.agg #[.bool false, .slice none 0 0, .int .i64 0, .int .i64 0, .slice none 0 0, .int .i64 0, .int .i64 0, .slice none 0 0, .slice none 0 0, .slice none 0 0], .slice none 0 0, .int .i64 3]) (by simp [results, Tryz.results6, go_sem, r0, r1, r2, r3, r4, r5, r6, r7, r8, r9]) rfl (givesCm_no rfl (unhide HB))
    · have h3 : n > (ts.length : Int) := by omega
      go_wp2_with fail
      exact bodyPost_ret (v := .tuple #[.agg #[.bool false, .slice none 0 0, .int .i64 0, .int .i64 0, .slice none 0 0, .int .i64 0, .int .i64 0, .slice none 0 0, .slice none 0 0, .slice none 0 0], .slice none 0 0, .int .i64 3]) (by simp [results, Tryz.results6, go_sem, r0, r1, r2, r3, r4, r5, r6, r7, r8, r9]) rfl (givesCm_no rfl (unhide HB))
end Go.Proofs.YtfejpbkapikdiaaGreatDoor

namespace Go.Proofs.YtfejpbkapikdiaaGreatDoor
open Go.RowKit

theorem cargs_good {C : Tr} {x : WTxn} (g : GoodT C) (hx : x.z ≤ 9223372036854775807 ∧ x.p.length ≤ 1048576 ∧ x.d.length ≤ 140737488355328) : Args C x := by
  have hz := zGood_iff.1 g.zx
  exact ⟨g.wf, by omega, fun n hn => by have := goodB_le (g.nod.ok n hn).path; omega, by have := sasc_len g.ses; omega, hx.1, hx.2.1, hx.2.2⟩
structure CArg (s : Sv) (xs : List WTxn) : Prop where
  base : CBase s xs
  z : s.tr.z ≤ 9223372036854775807
  long : ∀ n ∈ s.tr.ns, n.p.length ≤ 1048576
  ss : s.tr.ss.length * 8 ≤ 140737488351232
  xs : ∀ x ∈ xs, x.z ≤ 9223372036854775807 ∧ x.p.length ≤ 1048576 ∧ x.d.length ≤ 140737488355328
theorem chn_args {s : Sv} {xs : List WTxn} {k : Nat} (hA : CArg s xs) (h : Chn s xs k) {i : Nat} (hi : i ≤ k) {x : WTxn} (hx : xs[i]? = some x) : Args (csP s xs i).1.tr x ∧ (csP s xs i).1.tr.ss.length * 8 ≤ 140737488351232 := by
  have hm := hA.xs x (List.mem_of_getElem? hx)
  cases i with
  | zero =>
    rw [csP_zero]
    have := hA.ss
    exact ⟨⟨hA.base.wf, hA.z, hA.long, by simp only; omega, hm.1, hm.2.1, hm.2.2⟩, this⟩
  | succ i =>
    obtain ⟨y, hy⟩ : ∃ y, xs[i]? = some y := ⟨_, List.getElem?_eq_getElem (by have := h.le; omega)⟩
    have g := (app_good (h.ok i y (by omega) hy)).1
    rw [csP_succ hy]
    exact ⟨cargs_good g hm, by have := sasc_len g.ses; simp only [stP, stepS]; omega⟩
/-- the server's box and the rows of aviaryref.Commit -/
structure RI (w W : World) (s : Sv) (dn : Int) (N : List Nt) (vd vl vn vs vw vN : Value) : Prop where
  b : CB w W s.up vd s.id s.ep vl dn s.tr.z vn vs vw
  d : OwnS W w.heap.size vd s.fs
  l : OwnS W w.heap.size vl s.ts
  n : OwnS W w.heap.size vn s.tr.ns
  i : OwnS W w.heap.size vs s.tr.ss
  o : OwnS W w.heap.size vw s.ws
  t : OwnS W w.heap.size vN N
section
variable {w W V : World} {s : Sv} {dn : Int} {N : List Nt} {vd vl vn vs vw vN : Value}
theorem RI.next (h : RI w W s dn N vd vl vn vs vw vN) (hb : Below W.heap.size W V) : RI w V s dn N vd vl vn vs vw vN :=
  ⟨h.b.next hb, h.d.next hb, h.l.next hb, h.n.next hb, h.i.next hb, h.o.next hb, h.t.next hb⟩
theorem RI.watch (h : RI w W s dn N vd vl vn vs vw vN) {vw' : Value} {ws' : List Wa} (ho : OwnS W w.heap.size vw' ws') : RI w (W.setCell ⟨w.heap.size, 9, none⟩ vw') ⟨s.up, s.fs, s.id, s.ep, s.ts, s.dn, s.tr, ws'⟩ dn N vd vl vn vs vw' vN :=
  ⟨h.b.put 9 vw' rfl, own_setB h.d h.b.s (by decide) _, own_setB h.l h.b.s (by decide) _, own_setB h.n h.b.s (by decide) _, own_setB h.i h.b.s (by decide) _, own_setB ho h.b.s (by decide) _, own_setB h.t h.b.s (by decide) _⟩
theorem RI.tree (h : RI w W s dn N vd vl vn vs vw vN) {vn' vs' : Value} {t' : Tr} (hn' : OwnS W w.heap.size vn' t'.ns) (hs' : OwnS W w.heap.size vs' t'.ss) :
    RI w (((W.setCell ⟨w.heap.size, 6, none⟩ (.int .i64 t'.z)).setCell ⟨w.heap.size, 7, none⟩ vn').setCell ⟨w.heap.size, 8, none⟩ vs') ⟨s.up, s.fs, s.id, s.ep, s.ts, s.dn, t', s.ws⟩ dn N vd vl vn' vs' vw vN := by
  have b1 : Box10 (W.setCell ⟨w.heap.size, 6, none⟩ (.int .i64 t'.z)) w.heap.size s.up vd s.id s.ep vl dn t'.z vn vs vw := block_set (j := 6) _ h.b.s
  have b2 : Box10 ((W.setCell ⟨w.heap.size, 6, none⟩ (.int .i64 t'.z)).setCell ⟨w.heap.size, 7, none⟩ vn') w.heap.size s.up vd s.id s.ep vl dn t'.z vn' vs vw := block_set (j := 7) _ b1
  have b3 : Box10 (((W.setCell ⟨w.heap.size, 6, none⟩ (.int .i64 t'.z)).setCell ⟨w.heap.size, 7, none⟩ vn').setCell ⟨w.heap.size, 8, none⟩ vs') w.heap.size s.up vd s.id s.ep vl dn t'.z vn' vs' vw := block_set (j := 8) _ b2
  have keep : ∀ {α : Type} [Lay α] {v : Value} {xs : List α}, OwnS W w.heap.size v xs → 34 ≠ Lay.ty α → OwnS (((W.setCell ⟨w.heap.size, 6, none⟩ (.int .i64 t'.z)).setCell ⟨w.heap.size, 7, none⟩ vn').setCell ⟨w.heap.size, 8, none⟩ vs') w.heap.size v xs :=
    fun h0 hne => own_setB (own_setB (own_setB h0 h.b.s hne _) b1 hne _) b2 hne _
  exact ⟨⟨((h.b.below.setCell (by simp) _).setCell (by simp) _).setCell (by simp) _, b3, ((h.b.r.other (by omega)).other (by omega)).other (by omega)⟩, keep h.d (by decide), keep h.l (by decide), keep hn' (by decide), keep hs' (by decide), keep h.o (by decide), keep h.t (by decide)⟩
theorem RI.done (h : RI w W s dn N vd vl vn vs vw vN) (dn' : Int) : RI w (W.setCell ⟨w.heap.size, 5, none⟩ (.int .i64 dn')) s dn' N vd vl vn vs vw vN :=
  ⟨⟨h.b.below.setCell (by simp) _, block_set (j := 5) _ h.b.s, h.b.r.other (by omega)⟩, own_setB h.d h.b.s (by decide) _, own_setB h.l h.b.s (by decide) _, own_setB h.n h.b.s (by decide) _, own_setB h.i h.b.s (by decide) _, own_setB h.o h.b.s (by decide) _, own_setB h.t h.b.s (by decide) _⟩
theorem RI.note (h : RI w W s dn N vd vl vn vs vw vN) {N' : List Nt} {vN' : Value} (hg : W.grownBy V vN.ownBlock) (ho : OwnS V w.heap.size vN' N') : RI w V s dn N' vd vl vn vs vw vN' := by
  have na : some w.heap.size ≠ vN.ownBlock := fun e => own_boxS h.t h.b.s (by decide) e.symm
  have nr : some (w.heap.size + 1) ≠ vN.ownBlock := fun e => own_boxS h.t h.b.r (by decide) e.symm
  have keep : ∀ {α : Type} [Lay α] {v : Value} {xs : List α}, OwnS W w.heap.size v xs → Lay.ty α ≠ 62 → OwnS V w.heap.size v xs := fun h0 h1 => h0.grown hg (own_apart h0 h.t h1)
  refine ⟨⟨h.b.below.grown hg h.b.below.size (fun g e => ?_), (hg.block _ h.b.s.lt na).trans h.b.s, (hg.block _ h.b.r.lt nr).trans h.b.r⟩, keep h.d (by decide), keep h.l (by decide), keep h.n (by decide), keep h.i (by decide), keep h.o (by decide), ho⟩
  rcases h.t with ⟨e1, _⟩ | ⟨g', cap, e1, hB, _⟩
  · rw [e1] at e; simp [Value.ownBlock] at e
  · rw [e1] at e; simp only [Value.ownBlock, Option.some.injEq] at e; omega
theorem RI.out (h : RI w W s dn N vd vl vn vs vw vN) (x0 x1 x2 x3 x4 x5 x6 x7 x8 x9 : Value) :
    SvV (put10 W (w.heap.size + 1) x0 x1 x2 x3 x4 x5 x6 x7 x8 x9) (.agg #[.bool s.up, vd, .int .i64 s.id, .int .i64 s.ep, vl, .int .i64 dn, .int .i64 s.tr.z, vn, vs, vw]) ⟨s.up, s.fs, s.id, s.ep, s.ts, dn, s.tr, s.ws⟩ ∧ SeqV (put10 W (w.heap.size + 1) x0 x1 x2 x3 x4 x5 x6 x7 x8 x9) vN N ∧ Below w.heap.size w (put10 W (w.heap.size + 1) x0 x1 x2 x3 x4 x5 x6 x7 x8 x9) :=
  ⟨⟨vd, vl, vn, vs, vw, rfl, seq_disk.1 (own_put h.d h.b.r (by decide) _ _ _ _ _ _ _ _ _ _).seq, seq_log.1 (own_put h.l h.b.r (by decide) _ _ _ _ _ _ _ _ _ _).seq, (own_put h.n h.b.r (by decide) _ _ _ _ _ _ _ _ _ _).seq, (own_put h.i h.b.r (by decide) _ _ _ _ _ _ _ _ _ _).seq, (own_put h.o h.b.r (by decide) _ _ _ _ _ _ _ _ _ _).seq⟩, (own_put h.t h.b.r (by decide) _ _ _ _ _ _ _ _ _ _).seq, put10_below h.b.below (by omega) _ _ _ _ _ _ _ _ _ _⟩
end
/-- where aviaryref.Commit's loop begins -/
theorem ri_start {w W1 w1 : World} {s : Sv} {ad al an ai aw : Option Addr} {nd cd nl cl nn cn ni ci nw cw : Nat} {vd vl vn vs vw : Value} {B1 B2 : Nat} (h : CB w W1 s.up (.slice ad nd cd) s.id s.ep (.slice al nl cl) s.dn s.tr.z (.slice an nn cn) (.slice ai ni ci) (.slice aw nw cw))
    (h1 : W1.heap.size ≤ B1) (h2 : B1 ≤ B2) (od : OwnS w1 W1.heap.size vd s.fs) (ol : OwnS w1 B1 vl s.ts) (on : OwnS w1 B2 vn s.tr.ns) (oi : OwnS w1 B2 vs s.tr.ss) (ow : OwnS w1 B2 vw s.ws) (hb : Below W1.heap.size W1 w1) :
    RI w (Go.Proofs.YtfejpbkapikdiaaGreatDoor.put10 w1 w.heap.size (.bool s.up) vd (.int .i64 s.id) (.int .i64 s.ep) vl (.int .i64 s.dn) (.int .i64 s.tr.z) vn vs vw) s s.dn [] vd vl vn vs vw (.slice none 0 0) := by
  have hz := h.below.size
  have h' := h.next hb
  exact ⟨h'.put10 _ _ _ _ _ _ _ _ _ _, (own_put od h'.s (by decide) _ _ _ _ _ _ _ _ _ _).lower hz, (own_put ol h'.s (by decide) _ _ _ _ _ _ _ _ _ _).lower (by omega), (own_put on h'.s (by decide) _ _ _ _ _ _ _ _ _ _).lower (by omega), (own_put oi h'.s (by decide) _ _ _ _ _ _ _ _ _ _).lower (by omega), (own_put ow h'.s (by decide) _ _ _ _ _ _ _ _ _ _).lower (by omega), .inl ⟨rfl, rfl⟩⟩
theorem log_at {ts : List WTxn} {dN nN i : Nat} {x : WTxn} (h : ((ts.drop dN).take (nN - dN))[i]? = some x) : ts[dN + i]? = some x ∧ i < nN - dN := by
  rw [List.getElem?_take] at h
  split at h
  · rw [List.getElem?_drop] at h
    exact ⟨h, by assumption⟩
  · cases h
end Go.Proofs.YtfejpbkapikdiaaGreatDoor

namespace Go.Proofs.YtfejpbkapikdiaaGreatDoor
open Go.RowKit

theorem drop_get {ws : List Wa} {s : Int} {i : Nat} {x : Wa} (h : ws[i]? = some x) (hx : x.s ≠ s) : (dropW ws s)[(dropW (ws.take i) s).length]? = some x ∧ dropW (ws.take (i + 1)) s = dropW (ws.take i) s ++ [x] := by
  have e : ws = ws.take i ++ x :: ws.drop (i + 1) := by
    obtain ⟨h1, h2⟩ := List.getElem?_eq_some_iff.1 h
    rw [← h2]; simp
  refine ⟨?_, ?_⟩
  · have : dropW ws s = dropW (ws.take i) s ++ x :: dropW (ws.drop (i + 1)) s := by
      conv => lhs; rw [e]
      simp [dropW, hx]
    rw [this]; simp
  · rw [snoc_take h]; simp [dropW, hx]
theorem drop_skip {ws : List Wa} {s : Int} {i : Nat} {x : Wa} (h : ws[i]? = some x) (hx : x.s = s) : dropW (ws.take (i + 1)) s = dropW (ws.take i) s := by
  rw [snoc_take h]; simp [dropW, hx]
end Go.Proofs.YtfejpbkapikdiaaGreatDoor

namespace Go.Proofs.YtfejpbkapikdiaaGreatDoor
open Go.RowKit

theorem RowAt.grown {W V : World} {b off : Nat} {cs : List Value} {r : Option Nat} (h : RowAt W b off cs) (hg : W.grownBy V r) (hr : some b ≠ r) : RowAt V b off cs := fun j v hj => hg.cell (h j v hj) hr
theorem SeqV.grown {α : Type} [Lay α] {W V : World} {v : Value} {xs : List α} {r : Option Nat} (h : SeqV W v xs) (hg : W.grownBy V r) (hr : ∀ k, v.ownBlock = some k → some k ≠ r) : SeqV V v xs := by
  rcases h with h | ⟨b, off, cap, rfl, h1, h2, h3, h0, h4⟩
  · exact .inl h
  · exact .inr ⟨b, off, cap, rfl, h1, h2, Nat.lt_of_lt_of_le h3 hg.size, h0, h4.grown hg (hr b rfl)⟩
/-- the document's Fire within one event -/
structure FI (w wq : World) (m be : Nat) (e : Ev) (lv : Value) (L : List Wa) (nv : Value) (N : List Nt) (fv : Value) (F : List Wa) : Prop where
  n : OwnS wq w.heap.size nv N
  f : OwnS wq m fv F
  nf : ∀ k, nv.ownBlock = some k → fv.ownBlock ≠ some k ∧ k ≠ be
  bm : be < m
  rd : ∀ (i : Nat) (x : Wa), L[i]? = some x → ∃ b off cap, lv = .slice (some ⟨b, off, none⟩) L.length cap ∧ b < m ∧ nv.ownBlock ≠ some b ∧ RowAt wq b off (cellsL L)
  e : OneR wq be e
  b : Below w.heap.size w wq
  wm : w.heap.size ≤ m
  mz : m ≤ wq.heap.size
theorem FI.next {w wq V : World} {m be : Nat} {e : Ev} {lv : Value} {L : List Wa} {nv : Value} {N : List Nt} {fv : Value} {F : List Wa} (h : FI w wq m be e lv L nv N fv F) (hb : Below wq.heap.size wq V) : FI w V m be e lv L nv N fv F :=
  ⟨h.n.next hb, h.f.next hb, h.nf, h.bm, fun i x hx => by
    obtain ⟨b, off, cap, e1, h1, h2, h3⟩ := h.rd i x hx
    exact ⟨b, off, cap, e1, h1, h2, h3.kept hb (Nat.lt_of_lt_of_le h1 h.mz)⟩, (hb.block _ (Nat.lt_of_lt_of_le h.bm h.mz)).trans h.e, nnext h.b hb, h.wm, Nat.le_trans h.mz hb.size⟩
theorem FI.note {w wq V : World} {m be : Nat} {e : Ev} {lv : Value} {L : List Wa} {nv nv' : Value} {N N' : List Nt} {fv : Value} {F : List Wa} (h : FI w wq m be e lv L nv N fv F) (hg : wq.grownBy V nv.ownBlock) (ho : OwnS V 0 nv' N') (hl : nv'.ownBlock = nv.ownBlock ∨ nv'.ownBlock = some wq.heap.size) : FI w V m be e lv L nv' N' fv F := by
  have hmz := h.mz
  have hbm := h.bm
  refine ⟨ownS_base ho (fun k hk => ?_), h.f.grown hg (fun k hk e => (h.nf k e.symm).1 hk), fun k hk => ?_, h.bm, fun i x hx => ?_, (hg.block _ (by omega) (fun e => (h.nf _ e.symm).2 rfl)).trans h.e, h.b.grown hg h.b.size (ownS_above h.n), h.wm, Nat.le_trans h.mz hg.size⟩
  · rcases hl with e | e
    · rw [e] at hk; exact ownS_above h.n k hk
    · rw [e] at hk; cases hk; exact h.b.size
  · rcases hl with e | e
    · rw [e] at hk; exact h.nf k hk
    · rw [e] at hk; cases hk
      exact ⟨fun e' => by have := h.f.low _ e'; omega, by omega⟩
  · obtain ⟨b, off, cap, e1, h1, h2, h3⟩ := h.rd i x hx
    refine ⟨b, off, cap, e1, h1, ?_, h3.grown hg (fun e => h2 e.symm)⟩
    rcases hl with e | e
    · rw [e]; exact h2
    · rw [e]; intro e'; cases e'; omega
theorem FI.left {w wq V : World} {m be : Nat} {e : Ev} {lv : Value} {L : List Wa} {nv : Value} {N : List Nt} {fv fv' : Value} {F F' : List Wa} (h : FI w wq m be e lv L nv N fv F) (hg : wq.grownBy V fv.ownBlock) (ho : OwnS V 0 fv' F') (hl : fv'.ownBlock = fv.ownBlock ∨ fv'.ownBlock = some wq.heap.size) : FI w V m be e lv L nv N fv' F' := by
  have hmz := h.mz
  have hbm := h.bm
  have hab := ownS_above h.f
  refine ⟨h.n.grown hg (fun k hk e => (h.nf k hk).1 e.symm), ownS_base ho (fun k hk => ?_), fun k hk => ⟨?_, (h.nf k hk).2⟩, h.bm, fun i x hx => ?_, (hg.block _ (by omega) (fun e => by have := hab _ e.symm; omega)).trans h.e, h.b.grown hg h.b.size (fun k hk => Nat.le_trans h.wm (hab k hk)), h.wm, Nat.le_trans h.mz hg.size⟩
  · rcases hl with e | e
    · rw [e] at hk; exact hab k hk
    · rw [e] at hk; cases hk; exact h.mz
  · rcases hl with e | e
    · rw [e]; exact (h.nf k hk).1
    · rw [e]; intro e'; cases e'
      have := h.n.low _ hk
      omega
  · obtain ⟨b, off, cap, e1, h1, h2, h3⟩ := h.rd i x hx
    exact ⟨b, off, cap, e1, h1, h2, h3.grown hg (fun e => by have := hab _ e.symm; omega)⟩
/-- one element behind a row of the call's own -/
theorem wpList_app_nt {w : World} {ops : Array Oper} {rest : List Oper} {o : Oper} {a : Act} {Q : Exit → Act → World → Prop} (hgd : o.guard = none) (s x : Operand)
    (ho : o.op = .call { callee := .builtin .append, args := #[s, x], argTypes := #[35, 35] })
    (v : Value) (ns : List Nt) (hs : a.eval s = v) (hown : OwnS w 0 v ns) (q : Nat) (hx : a.eval x = .slice (some ⟨q, 0, none⟩) 1 1) (t : Nt) (hnews : OneR w q t) (hl : (ns.length + 1) * 32 ≤ 140737488355328)
    (h : ∀ a' c' w', OwnS w' 0 (.slice a' (ns.length + 1) c') (ns ++ [t]) → w.grownBy w' v.ownBlock → ((Value.slice a' (ns.length + 1) c').ownBlock = v.ownBlock ∨ (Value.slice a' (ns.length + 1) c').ownBlock = some w.heap.size) → wpList Tryz.prog ops Q rest (a.put o.dst (.slice a' (ns.length + 1) c')) w') :
    wpList Tryz.prog ops Q (o :: rest) a w := by
  refine wpList_plain hgd fun K hK => ?_
  obtain ⟨i0, hi0, hz0, hz1, hz2⟩ := tinfo
  obtain ⟨v', w', hr, h2, h3, _, h5⟩ := run_append_own_at (P := Tryz.prog) w 0 35 o.type 62 i0 _ 3 32 Tryz.underlying35 hi0 hz0 hz1 hz2 rfl (by decide) v ns.length (cellsL ns) hown.row ⟨q, 0, none⟩ 1 1 (ntcells t) rfl (one_news hnews) (Lay.one t) (by simp only [maxLen]; omega) hl (Nat.zero_le _)
  have h2' : OwnS w' 0 v' (ns ++ [t]) := OwnS.of_row (by rw [List.length_append, cellsL_snoc]; exact h2)
  obtain ⟨a', c', rfl, _⟩ := h2'.slice
  rw [List.length_append, List.length_singleton] at h2' hr h5
  unfold Oper.wp execOp
  simp only [ho, resolve, invoke, builtin, Sem.run_bind, Sem.run_pure, Result.andThen_ok, List.map_toArray, List.map_cons, List.map_nil, hs, hx, hr]
  exact hK _ _ (h a' c' w' h2' h3 h5)
theorem wpList_app_wa {w : World} {ops : Array Oper} {rest : List Oper} {o : Oper} {a : Act} {Q : Exit → Act → World → Prop} (hgd : o.guard = none) (s x : Operand)
    (ho : o.op = .call { callee := .builtin .append, args := #[s, x], argTypes := #[32, 32] })
    (v : Value) (ns : List Wa) (hs : a.eval s = v) (hown : OwnS w 0 v ns) (q : Nat) (hx : a.eval x = .slice (some ⟨q, 0, none⟩) 1 1) (t : Wa) (hnews : OneR w q t) (hl : (ns.length + 1) * 32 ≤ 140737488355328)
    (h : ∀ a' c' w', OwnS w' 0 (.slice a' (ns.length + 1) c') (ns ++ [t]) → w.grownBy w' v.ownBlock → ((Value.slice a' (ns.length + 1) c').ownBlock = v.ownBlock ∨ (Value.slice a' (ns.length + 1) c').ownBlock = some w.heap.size) → wpList Tryz.prog ops Q rest (a.put o.dst (.slice a' (ns.length + 1) c')) w') :
    wpList Tryz.prog ops Q (o :: rest) a w := by
  refine wpList_plain hgd fun K hK => ?_
  obtain ⟨i0, hi0, hz0, hz1, hz2⟩ := winfo
  obtain ⟨v', w', hr, h2, h3, _, h5⟩ := run_append_own_at (P := Tryz.prog) w 0 32 o.type 80 i0 _ 3 32 Tryz.underlying32 hi0 hz0 hz1 hz2 rfl (by decide) v ns.length (cellsL ns) hown.row ⟨q, 0, none⟩ 1 1 (wcells t) rfl (one_news hnews) (Lay.one t) (by simp only [maxLen]; omega) hl (Nat.zero_le _)
  have h2' : OwnS w' 0 v' (ns ++ [t]) := OwnS.of_row (by rw [List.length_append, cellsL_snoc]; exact h2)
  obtain ⟨a', c', rfl, _⟩ := h2'.slice
  rw [List.length_append, List.length_singleton] at h2' hr h5
  unfold Oper.wp execOp
  simp only [ho, resolve, invoke, builtin, Sem.run_bind, Sem.run_pure, Result.andThen_ok, List.map_toArray, List.map_cons, List.map_nil, hs, hx, hr]
  exact hK _ _ (h a' c' w' h2' h3 h5)
theorem left_snoc {ws : List Wa} {k : Nat} {x : Wa} {e : Ev} (h : ws[k]? = some x) : leftL (ws.take (k + 1)) e = leftL (ws.take k) e ++ (if offB x e = true then [] else [x]) := by
  rw [snoc_take h]
  simp only [leftL, List.filter_append]
  cases hx : offB x e <;> simp [hx]
theorem run_app_noneW {P : Program} {w : World} (base : Nat) (t ty e : TypeId) (i : TypeInfo) (size : Nat) (ht : P.underlying t = some (.slice e)) (hi : P.info? e = some i)
    (v : Value) (n : Nat) (xs : List Value) (hown : w.ownsRow base e size v n xs) (c : Nat) :
    (Builtin.append_ #[t, t] ty #[v, .slice none 0 c]).run P w = .ok v w := by
  rcases hown.2 with ⟨rfl, rfl⟩ | ⟨g, cap, cur, rfl, _, _, hnc, _⟩
  · simp [Builtin.append_, run_underlying ht, sizeOf, typeInfo, hi, Builtin.lenOf, Builtin.firstCells]
  · simp [Builtin.append_, run_underlying ht, sizeOf, typeInfo, hi, Builtin.lenOf, Builtin.firstCells, hnc, storeCells]
/-- watches behind watches -/
theorem wpList_app_was {w : World} {ops : Array Oper} {rest : List Oper} {o : Oper} {a : Act} {Q : Exit → Act → World → Prop} (hgd : o.guard = none) (s x : Operand)
    (ho : o.op = .call { callee := .builtin .append, args := #[s, x], argTypes := #[32, 32] })
    (v u : Value) (ns ms : List Wa) (B : Nat) (hs : a.eval s = v) (hown : OwnS w B v ns) (hB : B ≤ w.heap.size) (hx : a.eval x = u) (hu : SeqV w u ms) (hl : (ns.length + ms.length) * 32 ≤ 140737488355328)
    (h : ∀ a' c' w', OwnS w' B (.slice a' (ns.length + ms.length) c') (ns ++ ms) → w.grownBy w' v.ownBlock → wpList Tryz.prog ops Q rest (a.put o.dst (.slice a' (ns.length + ms.length) c')) w') :
    wpList Tryz.prog ops Q (o :: rest) a w := by
  refine wpList_plain hgd fun K hK => ?_
  obtain ⟨i0, hi0, hz0, hz1, hz2⟩ := winfo
  have some_case : ∀ (ad : Addr) (cap : Nat), u = .slice (some ad) ms.length cap → (∀ j y, (cellsL ms)[j]? = some y → w.cell? (ad.add j) = some y) → Oper.wp Tryz.prog o a w K Q := by
    intro ad cap hu' hc
    obtain ⟨v', w', hrun, h2, h3, _, h5⟩ := run_append_own_at (P := Tryz.prog) w B 32 o.type 80 i0 _ 3 32 Tryz.underlying32 hi0 hz0 hz1 hz2 rfl (by decide) v ns.length (cellsL ns) hown.row ad ms.length cap (cellsL ms) (cellsL_length ms) hc (cellsL_one ms) (by simp only [maxLen]; omega) hl hB
    have h2' : OwnS w' B v' (ns ++ ms) := OwnS.of_row (by rw [List.length_append, cellsL_append]; exact h2)
    obtain ⟨a', c', rfl, _⟩ := h2'.slice
    rw [List.length_append] at h2' hrun h5
    subst hu'
    unfold Oper.wp execOp
    simp only [ho, resolve, invoke, builtin, Sem.run_bind, Sem.run_pure, Result.andThen_ok, List.map_toArray, List.map_cons, List.map_nil, hs, hx, hrun]
    exact hK _ _ (h a' c' w' h2' h3)
  rcases hu with ⟨ao, cap, rfl, rfl, _⟩ | ⟨b, off, cap, rfl, _, _, hb, _, hr⟩
  · cases ao with
    | none =>
      obtain ⟨a', c', rfl, _⟩ := hown.slice
      have hrun := run_app_noneW (P := Tryz.prog) (w := w) B 32 o.type 80 i0 3 Tryz.underlying32 hi0 _ ns.length (cellsL ns) hown.row cap
      unfold Oper.wp execOp
      simp only [ho, resolve, invoke, builtin, Sem.run_bind, Sem.run_pure, Result.andThen_ok, List.map_toArray, List.map_cons, List.map_nil, hs, hx, hrun]
      exact hK _ _ (h a' c' w (by rw [List.append_nil]; exact hown) (World.grownBy.refl _ _))
    | some ad => exact some_case ad cap rfl (fun j y hj => by simp [cellsL_nil] at hj)
  · exact some_case ⟨b, off, none⟩ cap rfl (fun j y hj => by rw [Addr.add_lit]; exact hr j y hj)
theorem one_newT2 (w : World) (o : Obj) (n : Nt) : OneR ((w.alloc o).alloc (.cells #[.int .i64 n.s, .int .i64 n.k, .string ⟨n.p.toArray⟩] 62)) (w.heap.size + 1) n := by
  have h := one_newT (w.alloc o) n
  rw [show (w.alloc o).heap.size = w.heap.size + 1 by simp] at h
  exact h
theorem one_newW2 (w : World) (o : Obj) (n : Wa) : OneR ((w.alloc o).alloc (.cells #[.int .i64 n.s, .int .i64 n.k, .string ⟨n.p.toArray⟩] 80)) (w.heap.size + 1) n := by
  have h := one_newW (w.alloc o) n
  rw [show (w.alloc o).heap.size = w.heap.size + 1 by simp] at h
  exact h

end Go.Proofs.YtfejpbkapikdiaaGreatDoor

namespace Go.Proofs.YtfejpbkapikdiaaGreatDoor
open Go.RowKit
set_option maxRecDepth 20000 in
set_option maxHeartbeats 2000000 in
theorem rsameW_any (va vb : Value) (ws : List Wa) (w : World) (ha : SeqV w va ws) (hb : SeqV w vb ws) (hl : ws.length ≤ 140737488355328) :
    Calls Tryz.prog 23 #[va, vb] w fun e w' => e = .returned (.bool true) ∧ Below w.heap.size w w' := by
  have K : ∀ (v : Value), SeqV w v ws → ∀ W, Below w.heap.size w W → ∀ (i : Nat) (x : Wa), ws[i]? = some x → ∃ b off c, v = .slice (some ⟨b, off, none⟩) ws.length c ∧ b < w.heap.size ∧ RowAt W b off (cellsL ws) := by
    intro v hv W hW i x hx
    obtain ⟨b, off, c, e, hb, hr, _, _⟩ := seq_row hv (by intro h0; rw [h0] at hx; simp at hx)
    exact ⟨b, off, c, e, hb, hr.kept hW hb⟩
  have K1 := hide (K va ha)
  have K2 := hide (K vb hb)
  obtain ⟨aa, ac, rfl⟩ := seq_slice ha
  obtain ⟨ba, bc, rfl⟩ := seq_slice hb
  clear ha hb K
  go_enter Tryz.func23, Tryz.ntmps23
  go_wp2_with fail
  go_loopg [13] ws.length (fun kx s13 wr => ∃ k : Nat, s13 = .int .i64 k ∧ k ≤ ws.length ∧ ws.length - k ≤ kx ∧ Hid (Below w.heap.size w wr))
  case atStart => exact ⟨0, rfl, Nat.zero_le _, Nat.le_refl _, hide (Below.refl _ _)⟩
  case round =>
    obtain ⟨k, rfl, hk, hg, hB⟩ := hrel
    by_cases hlt : k < ws.length
    · obtain ⟨x, hx⟩ : ∃ x, ws[k]? = some x := ⟨_, List.getElem?_eq_getElem hlt⟩
      obtain ⟨b1, o1, cc1, he, hb1, q1⟩ := unhide K1 wr (unhide hB) k x hx
      simp only [Value.slice.injEq] at he
      obtain ⟨rfl, _, rfl⟩ := he
      obtain ⟨b2, o2, cc2, he, hb2, q2⟩ := unhide K2 wr (unhide hB) k x hx
      simp only [Value.slice.injEq] at he
      obtain ⟨rfl, _, rfl⟩ := he
      have d0 := q1.w0 hx
      have d1 := q1.w1 hx
      have d2 := q1.w2 hx
      have r0 := q2.w0 hx
      have r1 := q2.w1 hx
      have r2 := q2.w2 hx
      have hlti : (k : Int) < (ws.length : Int) := by omega
      clear q1 q2 hx
      go_wp2_with fail
      go_region
      go_wp2_with fail
      go_roundg (ws.length - (k + 1))
      case measure => omega
      case rel => exact ⟨k + 1, rfl, by omega, Nat.le_refl _, hide (nnext (unhide hB) (Below.refl _ _).drew)⟩
    · obtain rfl : k = ws.length := by omega
      go_wp2_with fail
      go_ret
      exact ⟨rfl, unhide hB⟩

set_option maxRecDepth 20000 in
set_option maxHeartbeats 2000000 in
theorem rsameN_any (va vb : Value) (ws : List Nt) (w : World) (ha : SeqV w va ws) (hb : SeqV w vb ws) (hl : ws.length ≤ 140737488355328) :
    Calls Tryz.prog 8 #[va, vb] w fun e w' => e = .returned (.bool true) ∧ Below w.heap.size w w' := by
  have K : ∀ (v : Value), SeqV w v ws → ∀ W, Below w.heap.size w W → ∀ (i : Nat) (x : Nt), ws[i]? = some x → ∃ b off c, v = .slice (some ⟨b, off, none⟩) ws.length c ∧ b < w.heap.size ∧ RowAt W b off (cellsL ws) := by
    intro v hv W hW i x hx
    obtain ⟨b, off, c, e, hb, hr, _, _⟩ := seq_row hv (by intro h0; rw [h0] at hx; simp at hx)
    exact ⟨b, off, c, e, hb, hr.kept hW hb⟩
  have K1 := hide (K va ha)
  have K2 := hide (K vb hb)
  obtain ⟨aa, ac, rfl⟩ := seq_slice ha
  obtain ⟨ba, bc, rfl⟩ := seq_slice hb
  clear ha hb K
  go_enter Tryz.func8, Tryz.ntmps8
  go_wp2_with fail
  go_loopg [13] ws.length (fun kx s13 wr => ∃ k : Nat, s13 = .int .i64 k ∧ k ≤ ws.length ∧ ws.length - k ≤ kx ∧ Hid (Below w.heap.size w wr))
  case atStart => exact ⟨0, rfl, Nat.zero_le _, Nat.le_refl _, hide (Below.refl _ _)⟩
  case round =>
    obtain ⟨k, rfl, hk, hg, hB⟩ := hrel
    by_cases hlt : k < ws.length
    · obtain ⟨x, hx⟩ : ∃ x, ws[k]? = some x := ⟨_, List.getElem?_eq_getElem hlt⟩
      obtain ⟨b1, o1, cc1, he, hb1, q1⟩ := unhide K1 wr (unhide hB) k x hx
      simp only [Value.slice.injEq] at he
      obtain ⟨rfl, _, rfl⟩ := he
      obtain ⟨b2, o2, cc2, he, hb2, q2⟩ := unhide K2 wr (unhide hB) k x hx
      simp only [Value.slice.injEq] at he
      obtain ⟨rfl, _, rfl⟩ := he
      have d0 := q1.t0 hx
      have d1 := q1.t1 hx
      have d2 := q1.t2 hx
      have r0 := q2.t0 hx
      have r1 := q2.t1 hx
      have r2 := q2.t2 hx
      have hlti : (k : Int) < (ws.length : Int) := by omega
      clear q1 q2 hx
      go_wp2_with fail
      go_region
      go_wp2_with fail
      go_roundg (ws.length - (k + 1))
      case measure => omega
      case rel => exact ⟨k + 1, rfl, by omega, Nat.le_refl _, hide (nnext (unhide hB) (Below.refl _ _).drew)⟩
    · obtain rfl : k = ws.length := by omega
      go_wp2_with fail
      go_ret
      exact ⟨rfl, unhide hB⟩

end Go.Proofs.YtfejpbkapikdiaaGreatDoor

namespace Go.Proofs.YtfejpbkapikdiaaGreatDoor
open Go.RowKit

set_option maxRecDepth 20000 in
set_option maxHeartbeats 4000000 in
theorem rdrop_any (v : Value) (s : Int) (ws : List Wa) (w : World) (hv : SeqV w v ws) (hl : ws.length * 32 ≤ 140737488351232) :
    Calls Tryz.prog 19 #[v, .int .i64 s] w fun r w' => ∃ vl, r = .returned vl ∧ OwnS w' w.heap.size vl (dropW ws s) ∧ Below w.heap.size w w' := by
  have KR : ∀ W, Below w.heap.size w W → ∀ (k : Nat) (y : Wa), ws[k]? = some y → ∃ b off cap, v = .slice (some ⟨b, off, none⟩) ws.length cap ∧ b < w.heap.size ∧ RowAt W b off (cellsL ws) := fun W hW k y hx => by
    obtain ⟨b, off, cap, e, hb, hr, _, _⟩ := seq_row hv (fun h0 => by obtain ⟨h1, _⟩ := List.getElem?_eq_some_iff.1 hx; rw [h0] at h1; simp at h1)
    exact ⟨b, off, cap, e, hb, hr.kept hW hb⟩
  have HKR := hide KR
  obtain ⟨va, vc, rfl⟩ := seq_slice hv
  clear hv KR
  go_enter Tryz.func19, Tryz.ntmps19
  go_wp2_with fail
  go_loopg [5, 10] ws.length (fun kx s5 s10 wr => ∃ (k : Nat) (D : List Wa) (fa : Option Addr) (fc : Nat), s10 = .int .i64 k ∧ s5 = .slice fa D.length fc ∧ k ≤ ws.length ∧ ws.length - k ≤ kx ∧ Hid (dropW (ws.take k) s = D) ∧ Hid (OwnS wr w.heap.size (.slice fa D.length fc) D) ∧ Hid (Below w.heap.size w wr))
  case atStart => exact ⟨0, [], none, 0, rfl, rfl, Nat.zero_le _, Nat.le_refl _, hide rfl, hide (.inl ⟨rfl, rfl⟩), hide (Below.refl _ _)⟩
  case round =>
    obtain ⟨k, D, fa, fc, rfl, rfl, hk, hg, hD, hO, hB⟩ := hrel
    by_cases hlt : k < ws.length
    · obtain ⟨y, hy⟩ : ∃ y, ws[k]? = some y := ⟨_, List.getElem?_eq_getElem hlt⟩
      obtain ⟨b, off, cap, he, hb, q⟩ := unhide HKR wr (unhide hB) k y hy
      simp only [Value.slice.injEq] at he
      obtain ⟨rfl, _, rfl⟩ := he
      have d0 := q.w0 hy
      have d1 := q.w1 hy
      have d2 := q.w2 hy
      have hbw : b < wr.heap.size := Nat.lt_of_lt_of_le hb (unhide hB).size
      have hDl : (D.length + 1) * 32 ≤ 140737488355328 := by
        have h1 : (dropW (ws.take k) s).length ≤ (ws.take k).length := List.length_filter_le _ _
        have h2 : (ws.take k).length ≤ k := by simp; omega
        rw [unhide hD] at h1
        omega
      by_cases hys : y.s = s
      · have HS := hide (drop_skip hy hys)
        have hyb : (y.s == s) = true := by simpa using hys
        have hyn : (y.s != s) = false := by simpa using hys
        have HO1 := hide ((unhide hO).next (allocB wr (.cells #[.int .i64 y.s, .int .i64 y.k, .string ⟨y.p.toArray⟩] 80)))
        have HB1 := hide (nnext (unhide hB) (allocB wr (.cells #[.int .i64 y.s, .int .i64 y.k, .string ⟨y.p.toArray⟩] 80)))
        clear q hy hys
        go_wp2_with fail
        go_roundg (ws.length - (k + 1))
        case measure => omega
        case rel => exact ⟨k + 1, D, fa, fc, rfl, rfl, by omega, Nat.le_refl _, hide (by rw [unhide HS]; exact unhide hD), HO1, HB1⟩
      · have HS := hide (drop_get hy hys).2
        have hyb : (y.s == s) = false := by simpa using hys
        have hyn : (y.s != s) = true := by simpa using hys
        have HO1 := hide (((unhide hO).next (allocB wr (.cells #[.int .i64 y.s, .int .i64 y.k, .string ⟨y.p.toArray⟩] 80))).next (allocB _ (.cells #[.int .i64 y.s, .int .i64 y.k, .string ⟨y.p.toArray⟩] 80)))
        have HB1 := hide (nnext (nnext (unhide hB) (allocB wr (.cells #[.int .i64 y.s, .int .i64 y.k, .string ⟨y.p.toArray⟩] 80))) (allocB _ (.cells #[.int .i64 y.s, .int .i64 y.k, .string ⟨y.p.toArray⟩] 80)))
        clear q hy hys
        go_wp2_with (at_builtin; refine wpList_app_wa rfl _ _ rfl (.slice fa D.length fc) D rfl ((unhide HO1).lower (Nat.zero_le _)) (wr.heap.size + 1) rfl y (one_newW2 wr _ y) hDl ?_)
        intro a3 c3 w3 ho3 hg3 hl3
        have hab := ownS_above (unhide HO1)
        have HB3 := hide ((unhide HB1).grown hg3 (unhide HB1).size hab)
        have HO3 := hide (ownS_base (B := w.heap.size) ho3 (fun j hj => by
          rcases hl3 with h | h
          · rw [h] at hj; exact hab j hj
          · rw [h] at hj; cases hj; have := (unhide hB).size; omega))
        clear ho3 hg3 hl3 hab
        go_wp2_with fail
        go_roundg (ws.length - (k + 1))
        case measure => omega
        case rel => exact ⟨k + 1, D ++ [y], a3, c3, rfl, by rw [List.length_append]; rfl, by omega, Nat.le_refl _, hide (by rw [unhide HS, unhide hD]), by rw [List.length_append]; exact HO3, HB3⟩
    · obtain rfl : k = ws.length := by omega
      have hD2 := unhide hD
      rw [List.take_length] at hD2
      have HD2 := hide hD2
      clear hD2 hD
      go_wp2_with fail
      go_ret
      exact ⟨_, rfl, by rw [unhide HD2]; exact unhide hO, unhide hB⟩

end Go.Proofs.YtfejpbkapikdiaaGreatDoor
