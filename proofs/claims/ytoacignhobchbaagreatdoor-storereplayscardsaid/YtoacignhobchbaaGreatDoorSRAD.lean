/-
  store.Commit: the walk.
  store.Commit, where it goes on: the walk.
  What aviarykeep's kept, sameWatches (of alike ones) and tells answer: the walks.
  What aviaryref's Fire, SameNotes, SameWatches (of alike ones) and aviarylaw's watches answer; the law WatchFires: the walks.
  That an empty disk comes up; aviarylaw.boots and aviarykeep.boots return true: the walks.
  A server in a box: what stays, what is stored over it.
  What wire.Decode answers, for every text: the walk.
  What aviarykeep's logOf, laid and logs answer: the walks.
  aviarykeep.boots and aviarykeep.taken: the walks; a transaction more on a log, safe or not, in a row of its own.
  aviarykeep.filled: the walk.
  Ten decimal digits: their length, their bytes, and that their order is the order of the numbers; no program is named here.
-/
import Derived.Test.YtoacignhobchbaaGreatDoorSRU
import Derived.Test.YtoacignhobchbaaGreatDoorSRAC
import Derived.Deep.Cut
import Derived.Deep.CutRange
import Derived.Laws.StructEq
import Derived.Deep.QuietTactic
import Derived.Test.YtoacignhobchbaaGreatDoorSRW
import Derived.Test.YtoacignhobchbaaGreatDoorSRJ
import Derived.Test.YtoacignhobchbaaGreatDoorSRV
import Derived.Test.YtoacignhobchbaaGreatDoorSRG
import Derived.Test.YtoacignhobchbaaGreatDoorSRB
import Derived.Lib.ConvBytes
import Derived.Lib.Strings
import Derived.Test.YtoacignhobchbaaGreatDoorSRR
import Derived.Test.YtoacignhobchbaaGreatDoorSRY
import Derived.Test.YtoacignhobchbaaGreatDoorSRAB
import Derived.Test.YtoacignhobchbaaGreatDoorSRK
import Derived.Test.YtoacignhobchbaaGreatDoorSRAA
import Derived.Test.YtoacignhobchbaaGreatDoorSRA
import Derived.Lib.ItoaMem
import Derived.Lib.Repeat
namespace Go.Proofs.YtoacignhobchbaaGreatDoor
open Go.RowKit

/-- a server and notes are handed back -/
def GivesCm (w : World) (s : Sv) (N : List Nt) (E : Int) (e : Ending) (w' : World) : Prop := ∃ v a c, e = .returned (.tuple #[v, .slice a N.length c, .int .i64 E]) ∧ SvV w' v s ∧ SeqV w' (.slice a N.length c) N ∧ Below w.heap.size w w'
theorem givesCm_no {w w' : World} {E : Int} {e : Ending} (he : e = .returned (.tuple #[.agg #[.bool false, .slice none 0 0, .int .i64 0, .int .i64 0, .slice none 0 0, .int .i64 0, .int .i64 0, .slice none 0 0, .slice none 0 0, .slice none 0 0], .slice none 0 0, .int .i64 E])) (hb : Below w.heap.size w w') : GivesCm w sv0 [] E e w' :=
  ⟨_, none, 0, he, SvV.zero w', SeqV.nil w', hb⟩
theorem zero_put {w W : World} {k : Nat} (hb : Below w.heap.size w W) (hk : w.heap.size ≤ k) : Below w.heap.size w (put10 W k (.bool false) (.slice none 0 0) (.int .i64 0) (.int .i64 0) (.slice none 0 0) (.int .i64 0) (.int .i64 0) (.slice none 0 0) (.slice none 0 0) (.slice none 0 0)) := put10_below hb hk _ _ _ _ _ _ _ _ _ _
theorem logV_sub {w : World} {a : Option Addr} {c lo hi : Nat} {ts : List WTxn} (h : LogV w (.slice a ts.length c) ts) (h1 : lo ≤ hi) (h2 : hi ≤ ts.length) :
    (c = lo → LogV w (.slice a (hi - lo) 0) ((ts.drop lo).take (hi - lo))) ∧ (c ≠ lo → LogV w (.slice (Option.map (fun x => x.add (lo * 7)) a) (hi - lo) (c - lo)) ((ts.drop lo).take (hi - lo))) := by
  have hl : (ts.drop lo).length = ts.length - lo := by simp
  obtain ⟨d1, d2⟩ := h.drop (k := lo) (by omega)
  rw [← hl] at d1 d2
  exact ⟨fun e => (d1 e).take (by omega), fun e => (d2 e).take (by omega)⟩
theorem CI.done {w W : World} {ka kn kr : Nat} {s : Sv} {N : List Nt} {vd vl vn vs vw vN : Value} (h : CI w W ka kn kr s N vd vl vn vs vw vN) (n : Int) : CI w (W.setCell ⟨ka, 5, none⟩ (.int .i64 n)) ka kn kr ⟨s.up, s.fs, s.id, s.ep, s.ts, n, s.tr, s.ws⟩ N vd vl vn vs vw vN := by
  have b1 : Box10 (W.setCell ⟨ka, 5, none⟩ (.int .i64 n)) ka s.up vd s.id s.ep vl n s.tr.z vn vs vw := block_set (j := 5) _ h.box
  refine ⟨b1, (Below.heap_setCell _ _ _ _ (Ne.symm h.ne)).trans h.nb, own_setB h.d h.box (by decide) _, own_setB h.l h.box (by decide) _, own_setB h.n h.box (by decide) _, own_setB h.i h.box (by decide) _, own_setB h.o h.box (by decide) _, own_setB h.t h.box (by decide) _, h.below.setCell h.ha _, h.ha, h.hn, h.ne, h.r.other h.r1, h.r1, h.r2, h.hr⟩
theorem own_put {α : Type} [Lay α] {W : World} {B k : Nat} {v : Value} {xs : List α} {up : Bool} {id ep dn z : Int} {vd vl vn vs vw : Value} (h : OwnS W B v xs) (hb : Box10 W k up vd id ep vl dn z vn vs vw) (hne : 36 ≠ Lay.ty α) (x0 x1 x2 x3 x4 x5 x6 x7 x8 x9 : Value) : OwnS (put10 W k x0 x1 x2 x3 x4 x5 x6 x7 x8 x9) B v xs := by
  have hk := own_boxS h hb hne
  unfold put10
  exact (((((((((h.other hk _).other hk _).other hk _).other hk _).other hk _).other hk _).other hk _).other hk _).other hk _).other hk _
theorem CI.out {w W : World} {ka kn kr : Nat} {s : Sv} {N : List Nt} {vd vl vn vs vw vN : Value} (h : CI w W ka kn kr s N vd vl vn vs vw vN) (x0 x1 x2 x3 x4 x5 x6 x7 x8 x9 : Value) :
    SvV (put10 W kr x0 x1 x2 x3 x4 x5 x6 x7 x8 x9) (.agg #[.bool s.up, vd, .int .i64 s.id, .int .i64 s.ep, vl, .int .i64 s.dn, .int .i64 s.tr.z, vn, vs, vw]) s ∧ SeqV (put10 W kr x0 x1 x2 x3 x4 x5 x6 x7 x8 x9) vN N ∧ Below w.heap.size w (put10 W kr x0 x1 x2 x3 x4 x5 x6 x7 x8 x9) :=
  ⟨⟨vd, vl, vn, vs, vw, rfl, seq_disk.1 (own_put h.d h.r (by decide) _ _ _ _ _ _ _ _ _ _).seq, seq_log.1 (own_put h.l h.r (by decide) _ _ _ _ _ _ _ _ _ _).seq, (own_put h.n h.r (by decide) _ _ _ _ _ _ _ _ _ _).seq, (own_put h.i h.r (by decide) _ _ _ _ _ _ _ _ _ _).seq, (own_put h.o h.r (by decide) _ _ _ _ _ _ _ _ _ _).seq⟩, (own_put h.t h.r (by decide) _ _ _ _ _ _ _ _ _ _).seq, put10_below h.below h.hr _ _ _ _ _ _ _ _ _ _⟩

end Go.Proofs.YtoacignhobchbaaGreatDoor

namespace Go.Proofs.YtoacignhobchbaaGreatDoor
open Go.RowKit

/-- where Commit begins: a copy of the server in a box, no notes -/
theorem ci_start {w W1 w1 : World} {s : Sv} {ad al an ai aw : Option Addr} {nd cd cl cn ci cw : Nat} {bd bl bn bi bw : Option Addr} {md fd fl fn fi fw B1 B2 : Nat} (h : CB w W1 s.up (.slice ad nd cd) s.id s.ep (.slice al s.ts.length cl) s.dn s.tr.z (.slice an s.tr.ns.length cn) (.slice ai s.tr.ss.length ci) (.slice aw s.ws.length cw))
    (h1 : W1.heap.size ≤ B1) (h2 : B1 ≤ B2) (od : OwnS w1 W1.heap.size (.slice bd md fd) s.fs) (ol : OwnS w1 B1 (.slice bl s.ts.length fl) s.ts) (on : OwnS w1 B2 (.slice bn s.tr.ns.length fn) s.tr.ns) (oi : OwnS w1 B2 (.slice bi s.tr.ss.length fi) s.tr.ss) (ow : OwnS w1 B2 (.slice bw s.ws.length fw) s.ws) (hb : Below W1.heap.size W1 w1) :
    CI w ((w1.alloc (.cells #[.bool s.up, .slice bd md fd, .int .i64 s.id, .int .i64 s.ep, .slice bl s.ts.length fl, .int .i64 s.dn, .int .i64 s.tr.z, .slice bn s.tr.ns.length fn, .slice bi s.tr.ss.length fi, .slice bw s.ws.length fw] 36)).alloc (.cells #[.slice none 0 0] 42)) w1.heap.size (w1.heap.size + 1) (w.heap.size + 1) s [] (.slice bd md fd) (.slice bl s.ts.length fl) (.slice bn s.tr.ns.length fn) (.slice bi s.tr.ss.length fi) (.slice bw s.ws.length fw) (.slice none 0 0) := by
  have hz := h.below.size
  have hz1 := hb.size
  have hr := h.r.lt
  have a1 := allocB w1 (.cells #[.bool s.up, .slice bd md fd, .int .i64 s.id, .int .i64 s.ep, .slice bl s.ts.length fl, .int .i64 s.dn, .int .i64 s.tr.z, .slice bn s.tr.ns.length fn, .slice bi s.tr.ss.length fi, .slice bw s.ws.length fw] 36)
  have a2 := allocB (w1.alloc (.cells #[.bool s.up, .slice bd md fd, .int .i64 s.id, .int .i64 s.ep, .slice bl s.ts.length fl, .int .i64 s.dn, .int .i64 s.tr.z, .slice bn s.tr.ns.length fn, .slice bi s.tr.ss.length fi, .slice bw s.ws.length fw] 36)) (.cells #[.slice none 0 0] 42)
  have b := nnext a1 a2
  refine ⟨(Box10.new w1 s.up s.id s.ep s.dn s.tr.z _ _ _ _ _).next a2, ?_, (od.next b).lower hz, (ol.next b).lower (by omega), (on.next b).lower (by omega), (oi.next b).lower (by omega), (ow.next b).lower (by omega), .inl ⟨rfl, rfl⟩, nnext (nnext h.below hb) b, by omega, by omega, by omega, (h.r.next hb).next b, by omega, by omega, by omega⟩
  have := heap_alloc_new (w1.alloc (.cells #[.bool s.up, .slice bd md fd, .int .i64 s.id, .int .i64 s.ep, .slice bl s.ts.length fl, .int .i64 s.dn, .int .i64 s.tr.z, .slice bn s.tr.ns.length fn, .slice bi s.tr.ss.length fi, .slice bw s.ws.length fw] 36)) (.cells #[.slice none 0 0] 42)
  rwa [show (w1.alloc (.cells #[.bool s.up, .slice bd md fd, .int .i64 s.id, .int .i64 s.ep, .slice bl s.ts.length fl, .int .i64 s.dn, .int .i64 s.tr.z, .slice bn s.tr.ns.length fn, .slice bi s.tr.ss.length fi, .slice bw s.ws.length fw] 36)).heap.size = w1.heap.size + 1 by simp] at this

/-- the sessions that a call hands back lie in new memory -/
def FrS (w : World) (e : Ending) : Prop := ∀ x0 x1 x2 x3 x4 x5 x6 x7 x8 x9 y z : Value, e = .returned (.tuple #[.agg #[x0, x1, x2, x3, x4, x5, x6, x7, x8, x9], y, z]) → Fresh w.heap.size x8
theorem frs_of {w : World} {x0 x1 x2 x3 x4 x5 x6 x7 x8 x9 y z : Value} (h : Fresh w.heap.size x8) : FrS w (.returned (.tuple #[.agg #[x0, x1, x2, x3, x4, x5, x6, x7, x8, x9], y, z])) := by
  intro u0 u1 u2 u3 u4 u5 u6 u7 u8 u9 t r e
  simp only [Ending.returned.injEq, Value.tuple.injEq, Value.agg.injEq, Array.mk.injEq, List.cons.injEq] at e
  obtain ⟨⟨_, _, _, _, _, _, _, _, rfl, _⟩, _⟩ := e
  exact h

set_option maxRecDepth 10000 in
set_option maxHeartbeats 8000000 in
theorem scommit_runF (s : Sv) (v : Value) (dN nN k : Nat) (xs : List WTxn) (w : World) (hv : SvV w v s) (hf : Fits s) (hdn : s.dn = dN) (h1 : dN ≤ nN) (h2 : nN ≤ s.ts.length) (hxs : xs = (s.ts.drop dN).take (nN - dN)) (hC : Chn s xs k) (hB : CBase s xs) :
    Calls Tryz.prog 9 #[v, .int .i64 nN] w fun e w' => (k = xs.length → GivesCm w ⟨(csP s xs k).1.up, (csP s xs k).1.fs, (csP s xs k).1.id, (csP s xs k).1.ep, (csP s xs k).1.ts, nN, (csP s xs k).1.tr, (csP s xs k).1.ws⟩ (csP s xs k).2 0 e w' ∧ FrS w e) ∧ (∀ x, xs[k]? = some x → GivesCm w sv0 [] (appE (csP s xs k).1.tr x) e w') := by
  have CC := hide (fun W (hW : Below w.heap.size w W) => scopied_any s v W (hv.next hW) hf)
  obtain ⟨ad, nd, cd, al, cl, an, cn, ai, ci, aw, cw, rfl, d1, l1, n1, s1, k1⟩ := hv.five
  have hxl : xs.length = nN - dN := by rw [hxs]; simp; omega
  have HLS := hide (fun W (hW : Below w.heap.size w W) => logV_sub (l1.next hW) h1 h2)
  rw [← hxs] at HLS
  have hcl : s.ts.length ≤ cl ∧ cl ≤ 9223372036854775807 := by
    rcases l1 with ⟨_, _, e, e0, hm⟩ | ⟨_, _, _, e, h3, h4, _⟩
    · simp only [Value.slice.injEq] at e; rw [e0] at e ⊢; simp only [maxLen] at hm; simp; omega
    · simp only [Value.slice.injEq] at e; simp only [maxLen] at h4; omega
  have hll : s.ts.length * 72 ≤ 140737488355328 := hf.l
  have HC := hide hC
  have HBs := hide hB
  have hkl := hC.le
  clear hv d1 l1 n1 s1 k1 hxs hC hB hf
  have hdi : ¬ s.dn < 0 := by omega
  have hni : ¬ (nN : Int) < s.dn := by omega
  have HDN := hide hdn
  clear hdn
  have hnl : ¬ (nN : Int) > (s.ts.length : Int) := by omega
  go_enter Tryz.func9, Tryz.ntmps9
  go_upto_region 1 with fail
  have X1 := hide (CB.start w s.up s.id s.ep s.dn s.tr.z (.slice ad nd cd) (.slice al s.ts.length cl) (.slice an s.tr.ns.length cn) (.slice ai s.tr.ss.length ci) (.slice aw s.ws.length cw))
  generalize (w.alloc (.cells #[.bool s.up, .slice ad nd cd, .int .i64 s.id, .int .i64 s.ep, .slice al s.ts.length cl, .int .i64 s.dn, .int .i64 s.tr.z, .slice an s.tr.ns.length cn, .slice ai s.tr.ss.length ci, .slice aw s.ws.length cw] 36)).alloc (.cells #[.bool false, .slice none 0 0, .int .i64 0, .int .i64 0, .slice none 0 0, .int .i64 0, .int .i64 0, .slice none 0 0, .slice none 0 0, .slice none 0 0] 36) = W1 at *
  obtain ⟨x0, x1, x2, x3, x4, x5, x6, x7, x8, x9⟩ := (unhide X1).s.cells
  go_upto_region 4 with fail
  go_wp2_with fail
  with_reducible refine (unhide CC _ (unhide X1).below).mono ?_
  rintro e w1 ⟨bd, md, fd, bl, fl, bn, fn, bi, fi, bw, fw, B1, B2, rfl, g1, g2, od, hd1, ol, hl2, on, oi, ow, hb1⟩
  have CI0 := hide (ci_start (unhide X1) g1 g2 od ol on oi ow hb1)
  have X2 := hide (((unhide X1).next hb1).next (nnext (allocB w1 (.cells #[.bool s.up, .slice bd md fd, .int .i64 s.id, .int .i64 s.ep, .slice bl s.ts.length fl, .int .i64 s.dn, .int .i64 s.tr.z, .slice bn s.tr.ns.length fn, .slice bi s.tr.ss.length fi, .slice bw s.ws.length fw] 36)) (allocB (w1.alloc (.cells #[.bool s.up, .slice bd md fd, .int .i64 s.id, .int .i64 s.ep, .slice bl s.ts.length fl, .int .i64 s.dn, .int .i64 s.tr.z, .slice bn s.tr.ns.length fn, .slice bi s.tr.ss.length fi, .slice bw s.ws.length fw] 36)) (.cells #[.slice none 0 0] 42))))
  clear g1 g2 od hd1 ol hl2 on oi ow hb1 X1 CC x0 x1 x2 x3 x4 x5 x6 x7 x8 x9
  go_upto_region 7 with fail
  generalize (w1.alloc (.cells #[.bool s.up, .slice bd md fd, .int .i64 s.id, .int .i64 s.ep, .slice bl s.ts.length fl, .int .i64 s.dn, .int .i64 s.tr.z, .slice bn s.tr.ns.length fn, .slice bi s.tr.ss.length fi, .slice bw s.ws.length fw] 36)).alloc (.cells #[.slice none 0 0] 42) = W2 at *
  generalize w1.heap.size + 1 = kn at *
  generalize w1.heap.size = ka at *
  have x4 := (unhide X2).s.cells.2.2.2.2.1
  rw [unhide HDN]
  go_cut [41, 42, 43] from 36 (fun t41 t42 t43 wx => ∃ la lcc, t41 = .slice la (nN - dN) lcc ∧ t42 = .int .i64 ((nN - dN : Nat) : Int) ∧ t43 = .int .i64 0 ∧ wx = W2 ∧ Hid (∀ W, Below w.heap.size w W → LogV W (.slice la (nN - dN) lcc) xs))
  case first =>
    by_cases hlc : cl = dN
    · subst hlc
      go_wp2_with fail
      all_goals go_meet
      all_goals exact ⟨_, _, rfl, rfl, rfl, rfl, hide fun W hW => (unhide HLS W hW).1 (by first | rfl | trivial)⟩
    · go_wp2_with fail
      all_goals go_meet
      all_goals exact ⟨_, _, rfl, rfl, rfl, rfl, hide fun W hW => (unhide HLS W hW).2 hlc⟩
  case rest =>
    obtain ⟨la, lcc, rfl, rfl, rfl, rfl, HLX⟩ := hcut
    rw [← hxl] at HLX ⊢
    have HXL := hide hxl
    have hx63 : xs.length ≤ 1000000000000000 := by omega
    clear HLS hxl h1 h2 hcl hll hdi hni hnl X2 x4
    go_wp2_with fail
    go_loopg [43] xs.length (fun kx s43 wr => ∃ i : Nat, s43 = .int .i64 i ∧ i ≤ k ∧ xs.length - i ≤ kx ∧ Hid (∃ ad nd cd al cl an cn ai ci aw cw aN cN, CI w wr ka kn (w.heap.size + 1) (csP s xs i).1 (csP s xs i).2 (.slice ad nd cd) (.slice al (csP s xs i).1.ts.length cl) (.slice an (csP s xs i).1.tr.ns.length cn) (.slice ai (csP s xs i).1.tr.ss.length ci) (.slice aw (csP s xs i).1.ws.length cw) (.slice aN (csP s xs i).2.length cN)))
    case atStart => exact ⟨0, rfl, Nat.zero_le _, Nat.le_refl _, hide (by rw [csP_zero]; exact ⟨_, _, _, _, _, _, _, _, _, _, _, _, _, unhide CI0⟩)⟩
    case round =>
      obtain ⟨i, rfl, hi, hgi, HI⟩ := hrel
      by_cases hlt : i < xs.length
      · obtain ⟨x, hx⟩ : ∃ x, xs[i]? = some x := ⟨_, List.getElem?_eq_getElem hlt⟩
        obtain ⟨ead, eend, ecd, eal, ecl, ean, ecn, eai, eci, eaw, ecw, eaN, ecN, hci⟩ := unhide HI
        obtain ⟨b, o, c, he, hb, q, hq9⟩ := log_row (unhide HLX wr hci.below) hx
        simp only [Value.slice.injEq] at he
        obtain ⟨rfl, he2, rfl⟩ := he
        clear he2 hq9
        have e0 := q.z hx
        have e1 := q.o hx
        have e2 := q.s hx
        have e3 := q.p hx
        have e4 := q.d hx
        have e5 := q.v hx
        have e6 := q.w hx
        have hii : (i : Int) < (xs.length : Int) := by omega
        have hal := allocB wr (.cells #[.int .i64 x.z, .int .i64 x.o, .int .i64 x.s, .string ⟨x.p.toArray⟩, .string ⟨x.d.toArray⟩, .int .i64 x.v, .int .i64 x.w] 53)
        have HC1 := hide (commit1_any w _ ka kn (w.heap.size + 1) (csP s xs i).1 (csP s xs i).2 x ead eal ean eai eaw eaN eend ecd ecl ecn eci ecw ecN (hci.next hal) (chn_fit (unhide HBs) (unhide HC) hi hx))
        have HT1 := TAt.new wr x
        have HX := hide hx
        have HR0 := hide (hci.r.next hal)
        have HB1 := hide (nnext hci.below hal)
        have t0 := HT1.c0
        have t1 := HT1.c1
        have t2 := HT1.c2
        have t3 := HT1.c3
        have t4 := HT1.c4
        have t5 := HT1.c5
        have t6 := HT1.c6
        clear q hb hx hal HT1 hci HI
        obtain ⟨z, op, u, p, d, y, vv⟩ := x
        unfold txnV at HC1
        simp only at e0 e1 e2 e3 e4 e5 e6 t0 t1 t2 t3 t4 t5 t6
        go_upto_region 10 with fail
        generalize wr.alloc (.cells #[.int .i64 z, .int .i64 op, .int .i64 u, .string ⟨p.toArray⟩, .string ⟨d.toArray⟩, .int .i64 y, .int .i64 vv] 53) = W6 at *
        generalize wr.heap.size = kx at *
        clear e0 e1 e2 e3 e4 e5 e6
        go_wp2_with fail
        refine (unhide HC1).mono ?_
        rintro e w7 ⟨rfl, hout⟩
        have HO := hide hout
        clear HC1 hout t0 t1 t2 t3 t4 t5 t6
        have HX' := unhide HX
        obtain ⟨E, hE⟩ : ∃ E, appE (csP s xs i).1.tr ⟨z, op, u, p, d, y, vv⟩ = E := ⟨_, rfl⟩
        rw [hE] at HO
        rw [hE]
        by_cases hik : i < k
        · obtain rfl : E = 0 := by rw [← hE]; exact (unhide HC).ok i _ hik HX'
          have HIN : Hid (∃ ad nd cd al cl an cn ai ci aw cw aN cN, CI w w7 ka kn (w.heap.size + 1) (csP s xs (i + 1)).1 (csP s xs (i + 1)).2 (.slice ad nd cd) (.slice al (csP s xs (i + 1)).1.ts.length cl) (.slice an (csP s xs (i + 1)).1.tr.ns.length cn) (.slice ai (csP s xs (i + 1)).1.tr.ss.length ci) (.slice aw (csP s xs (i + 1)).1.ws.length cw) (.slice aN (csP s xs (i + 1)).2.length cN)) := hide (by
            rw [csP_succ HX']
            simp only [stP, List.length_append]
            exact (unhide HO).2.2 rfl)
          clear HO hE HX'
          go_wp2_with fail
          go_roundg (xs.length - (i + 1))
          case measure => omega
          case rel => exact ⟨i + 1, rfl, by omega, Nat.le_refl _, HIN⟩
        · obtain rfl : i = k := by omega
          have hE0 : E ≠ 0 := by rw [← hE]; exact (unhide HC).stop _ HX'
          have HR7 := (unhide HR0).next ((unhide HO).2.1 hE0)
          have HBw := hide (zero_put (unhide HO).1 (show w.heap.size ≤ w.heap.size + 1 by omega))
          unfold put10 at HBw
          obtain ⟨r0, r1, r2, r3, r4, r5, r6, r7, r8, r9⟩ := HR7.cells
          have rf0 := HR7.froz 0
          have rf1 := HR7.froz 1
          have rf2 := HR7.froz 2
          have rf3 := HR7.froz 3
          have rf4 := HR7.froz 4
          have rf5 := HR7.froz 5
          have rf6 := HR7.froz 6
          have rf7 := HR7.froz 7
          have rf8 := HR7.froz 8
          have rf9 := HR7.froz 9
          have HE := hide hE
          clear HR7 HO HR0 hE HX'
          go_wp2_with fail
          refine bodyPost_ret (v := .tuple #[.agg #[.bool false, .slice none 0 0, .int .i64 0, .int .i64 0, .slice none 0 0, .int .i64 0, .int .i64 0, .slice none 0 0, .slice none 0 0, .slice none 0 0], .slice none 0 0, .int .i64 E]) (by simp [results, Tryz.results9, go_sem, r0, r1, r2, r3, r4, r5, r6, r7, r8, r9]) rfl ?_
          refine ⟨fun h => by omega, fun x' hx' => ?_⟩
          rw [unhide HX] at hx'
          cases hx'
          rw [unhide HE]
          exact givesCm_no rfl (unhide HBw)
      · obtain rfl : i = k := by omega
        have hik : i = xs.length := by omega
        obtain ⟨ead, eend, ecd, eal, ecl, ean, ecn, eai, eci, eaw, ecw, eaN, ecN, hci⟩ := unhide HI
        obtain ⟨S, hS⟩ : ∃ S, (csP s xs i).1 = S := ⟨_, rfl⟩
        obtain ⟨NN, hNN⟩ : ∃ NN, (csP s xs i).2 = NN := ⟨_, rfl⟩
        rw [hS, hNN] at hci
        have HD := hide (hci.done nN)
        have HFR := hide (fresh_ownS hci.i)
        have x5 := hci.box.cells.2.2.2.2.2.1
        have xf5 := hci.box.froz 5
        have HS := hide hS
        have HNN := hide hNN
        have HIK := hide hik
        have hki : ¬ ((i : Int) < (xs.length : Int)) := by omega
        clear hci HI hS hNN hik
        go_upto_region 15 with fail
        generalize wr.setCell ⟨ka, 5, none⟩ (.int .i64 nN) = W8 at *
        clear x5 xf5
        obtain ⟨x0, x1, x2, x3, x4, x5, x6, x7, x8, x9⟩ := (unhide HD).box.cells
        have n0 : W8.cell? ⟨kn, 0, none⟩ = some (.slice eaN NN.length ecN) := by simp [World.cell?, (unhide HD).nb]
        obtain ⟨r0, r1, r2, r3, r4, r5, r6, r7, r8, r9⟩ := (unhide HD).r.cells
        have rf0 := (unhide HD).r.froz 0
        have rf1 := (unhide HD).r.froz 1
        have rf2 := (unhide HD).r.froz 2
        have rf3 := (unhide HD).r.froz 3
        have rf4 := (unhide HD).r.froz 4
        have rf5 := (unhide HD).r.froz 5
        have rf6 := (unhide HD).r.froz 6
        have rf7 := (unhide HD).r.froz 7
        have rf8 := (unhide HD).r.froz 8
        have rf9 := (unhide HD).r.froz 9
        have HOUT := hide ((unhide HD).out (.bool S.up) (.slice ead eend ecd) (.int .i64 S.id) (.int .i64 S.ep) (.slice eal S.ts.length ecl) (.int .i64 nN) (.int .i64 S.tr.z) (.slice ean S.tr.ns.length ecn) (.slice eai S.tr.ss.length eci) (.slice eaw S.ws.length ecw))
        have hl1 := (unhide HD).box.lt
        have hl2 := (unhide HD).r.lt
        have HB8 := hide (unhide HD).below
        have hne1 : w.heap.size + 1 ≠ ka := (unhide HD).r1
        have hne2 : w.heap.size + 1 ≠ kn := (unhide HD).r2
        have hne3 : ka ≠ w.heap.size + 1 := fun h => hne1 h.symm
        have hne4 : kn ≠ w.heap.size + 1 := fun h => hne2 h.symm
        clear HD
        simp only at x0 x1 x2 x3 x4 x5 x6 x7 x8 x9
        unfold put10 at HOUT
        go_region
        all_goals go_wp2_with fail
        all_goals refine bodyPost_ret (v := .tuple #[.agg #[.bool S.up, .slice ead eend ecd, .int .i64 S.id, .int .i64 S.ep, .slice eal S.ts.length ecl, .int .i64 nN, .int .i64 S.tr.z, .slice ean S.tr.ns.length ecn, .slice eai S.tr.ss.length eci, .slice eaw S.ws.length ecw], .slice eaN NN.length ecN, .int .i64 0]) (by simp [results, Tryz.results9, go_sem, r0, r1, r2, r3, r4, r5, r6, r7, r8, r9]) rfl ?_
        all_goals rw [unhide HS, unhide HNN]
        all_goals refine fun _ => ⟨⟨_, _, _, rfl, ?_, ?_, ?_⟩, frs_of (unhide HFR)⟩
        all_goals first
          | exact (unhide HOUT).1.next ((Below.refl _ _).drew)
          | exact (unhide HOUT).2.1.next ((Below.refl _ _).drew)
          | exact (unhide HOUT).2.2.drew
          | exact (unhide HOUT).1
          | exact (unhide HOUT).2.1
          | exact (unhide HOUT).2.2
end Go.Proofs.YtoacignhobchbaaGreatDoor

namespace Go.Proofs.YtoacignhobchbaaGreatDoor
open Go.RowKit
set_option maxRecDepth 10000 in

set_option maxHeartbeats 1000000 in
theorem kept_some (a : Addr) (cap : Nat) (ws : List Wa) (w : World) (hl : ws.length * 32 ≤ 140737488355328) (hc : ∀ j u, (cellsL ws)[j]? = some u → w.cell? (a.add j) = some u) :
    Calls Tryz.prog 7 #[.slice (some a) ws.length cap] w fun e w' => ∃ v', e = .returned v' ∧ OwnS w' w.heap.size v' ws ∧ Below w.heap.size w w' := by
  obtain ⟨i0, hi0, hz0, hz1, hz2⟩ := winfo
  have HR := hide hc
  clear hc
  go_enter Tryz.func7, Tryz.ntmps7
  go_wp2_with (at_builtin; refine wpList_append_own _ rfl _ _ 23 rfl w.heap.size 72 i0 _ 3 32 Tryz.underlying23 hi0 hz0 hz1 hz2 rfl (by decide) _ 0 [] rfl (World.ownsRow_nil _ _ _ _) a ws.length cap (cellsL ws) rfl (cellsL_length ws) ?qc2 (cellsL_one ws) ?qc4 ?qc5 ?qc6 ?_)
  case qc2 => exact unhide HR
  case qc4 => simp only [maxLen]; omega
  case qc5 => omega
  case qc6 => exact Nat.le_refl _
  intro v' w1 hown hgrow _
  have HO : Hid (OwnS w1 w.heap.size v' ws) := hide (OwnS.of_row (α := Wa) hown)
  have HB : Hid (Below w.heap.size w w1) := hide (grownO hgrow _ (Nat.le_refl _) (by intro k hk; cases hk))
  clear hown hgrow
  go_wp2
  go_ret
  exact ⟨_, rfl, unhide HO, unhide HB⟩
set_option maxRecDepth 10000 in
set_option maxHeartbeats 400000 in
theorem kept_nil (cap : Nat) (w : World) :
    Calls Tryz.prog 7 #[.slice none 0 cap] w fun e w' => ∃ v', e = .returned v' ∧ OwnS w' w.heap.size v' ([] : List Wa) ∧ Below w.heap.size w w' := by
  go_enter Tryz.func7, Tryz.ntmps7
  go_wp2_with fail
  go_ret
  exact ⟨_, rfl, .inl ⟨rfl, rfl⟩, Below.refl _ _⟩
theorem kept_any (v : Value) (ws : List Wa) (w : World) (hv : SeqV w v ws) (hl : ws.length * 32 ≤ 140737488355328) :
    Calls Tryz.prog 7 #[v] w fun e w' => ∃ v', e = .returned v' ∧ OwnS w' w.heap.size v' ws ∧ Below w.heap.size w w' := by
  rcases hv with ⟨a, cap, rfl, rfl, _⟩ | ⟨b, off, cap, rfl, _, _, hb, _, hr⟩
  · cases a with
    | none => exact kept_nil cap w
    | some a => exact kept_some a cap [] w (by simp) (fun j u h => by simp [cellsL_nil] at h)
  · exact kept_some ⟨b, off, none⟩ cap ws w hl (fun j u h => by rw [Addr.add_lit]; exact hr j u h)

set_option maxRecDepth 20000 in
set_option maxHeartbeats 2000000 in
theorem ksameW_any (va vb : Value) (ws : List Wa) (w : World) (ha : SeqV w va ws) (hb : SeqV w vb ws) (hl : ws.length ≤ 140737488355328) :
    Calls Tryz.prog 11 #[va, vb] w fun e w' => e = .returned (.bool true) ∧ Below w.heap.size w w' := by
  have K : ∀ (v : Value), SeqV w v ws → ∀ W, Below w.heap.size w W → ∀ (i : Nat) (x : Wa), ws[i]? = some x → ∃ b off c, v = .slice (some ⟨b, off, none⟩) ws.length c ∧ b < w.heap.size ∧ RowAt W b off (cellsL ws) := by
    intro v hv W hW i x hx
    obtain ⟨b, off, c, e, hb, hr, _, _⟩ := seq_row hv (by intro h0; rw [h0] at hx; simp at hx)
    exact ⟨b, off, c, e, hb, hr.kept hW hb⟩
  have K1 := hide (K va ha)
  have K2 := hide (K vb hb)
  obtain ⟨aa, ac, rfl⟩ := seq_slice ha
  obtain ⟨ba, bc, rfl⟩ := seq_slice hb
  clear ha hb K
  go_enter Tryz.func11, Tryz.ntmps11
  go_wp2_with fail
  go_loopg [5] ws.length (fun kx s5 wr => ∃ k : Nat, s5 = .int .i64 k ∧ k ≤ ws.length ∧ ws.length - k ≤ kx ∧ Hid (Below w.heap.size w wr))
  case atStart => exact ⟨0, rfl, Nat.zero_le _, Nat.le_refl _, hide (Below.refl _ _)⟩
  case round =>
    obtain ⟨k, rfl, hk, hg, hB⟩ := hrel
    by_cases hlt : k < ws.length
    · obtain ⟨x, hx⟩ : ∃ x, ws[k]? = some x := ⟨_, List.getElem?_eq_getElem hlt⟩
      obtain ⟨b1, o1, cc1, he, hb1, q1⟩ := unhide K1 wr (unhide hB) k x hx
      simp only [Value.slice.injEq] at he
      obtain ⟨rfl, _, rfl⟩ := he
      obtain ⟨b2, o2, cc2, he, hb2, q2⟩ := unhide K2 wr (unhide hB) k x hx
      simp only [Value.slice.injEq] at he
      obtain ⟨rfl, _, rfl⟩ := he
      have d0 := q1.w0 hx
      have d1 := q1.w1 hx
      have d2 := q1.w2 hx
      have r0 := q2.w0 hx
      have r1 := q2.w1 hx
      have r2 := q2.w2 hx
      have hlti : (k : Int) < (ws.length : Int) := by omega
      clear q1 q2 hx
      go_wp2_with fail
      go_region
      go_wp2_with fail
      go_roundg (ws.length - (k + 1))
      case measure => omega
      case rel => exact ⟨k + 1, rfl, by omega, Nat.le_refl _, hide (nnext (unhide hB) (Below.refl _ _).drew)⟩
    · obtain rfl : k = ws.length := by omega
      go_wp2_with fail
      go_ret
      exact ⟨rfl, unhide hB⟩

end Go.Proofs.YtoacignhobchbaaGreatDoor

namespace Go.Proofs.YtoacignhobchbaaGreatDoor
open Go.RowKit

theorem RowAt.grown {W V : World} {b off : Nat} {cs : List Value} {r : Option Nat} (h : RowAt W b off cs) (hg : W.grownBy V r) (hr : some b ≠ r) : RowAt V b off cs := fun j v hj => hg.cell (h j v hj) hr
theorem SeqV.grown {α : Type} [Lay α] {W V : World} {v : Value} {xs : List α} {r : Option Nat} (h : SeqV W v xs) (hg : W.grownBy V r) (hr : ∀ k, v.ownBlock = some k → some k ≠ r) : SeqV V v xs := by
  rcases h with h | ⟨b, off, cap, rfl, h1, h2, h3, h0, h4⟩
  · exact .inl h
  · exact .inr ⟨b, off, cap, rfl, h1, h2, Nat.lt_of_lt_of_le h3 hg.size, h0, h4.grown hg (hr b rfl)⟩
/-- the document's Fire within one event -/
structure FI (w wq : World) (m be : Nat) (e : Ev) (lv : Value) (L : List Wa) (nv : Value) (N : List Nt) (fv : Value) (F : List Wa) : Prop where
  n : OwnS wq w.heap.size nv N
  f : OwnS wq m fv F
  nf : ∀ k, nv.ownBlock = some k → fv.ownBlock ≠ some k ∧ k ≠ be
  bm : be < m
  rd : ∀ (i : Nat) (x : Wa), L[i]? = some x → ∃ b off cap, lv = .slice (some ⟨b, off, none⟩) L.length cap ∧ b < m ∧ nv.ownBlock ≠ some b ∧ RowAt wq b off (cellsL L)
  e : OneR wq be e
  b : Below w.heap.size w wq
  wm : w.heap.size ≤ m
  mz : m ≤ wq.heap.size
theorem FI.next {w wq V : World} {m be : Nat} {e : Ev} {lv : Value} {L : List Wa} {nv : Value} {N : List Nt} {fv : Value} {F : List Wa} (h : FI w wq m be e lv L nv N fv F) (hb : Below wq.heap.size wq V) : FI w V m be e lv L nv N fv F :=
  ⟨h.n.next hb, h.f.next hb, h.nf, h.bm, fun i x hx => by
    obtain ⟨b, off, cap, e1, h1, h2, h3⟩ := h.rd i x hx
    exact ⟨b, off, cap, e1, h1, h2, h3.kept hb (Nat.lt_of_lt_of_le h1 h.mz)⟩, (hb.block _ (Nat.lt_of_lt_of_le h.bm h.mz)).trans h.e, nnext h.b hb, h.wm, Nat.le_trans h.mz hb.size⟩
theorem FI.note {w wq V : World} {m be : Nat} {e : Ev} {lv : Value} {L : List Wa} {nv nv' : Value} {N N' : List Nt} {fv : Value} {F : List Wa} (h : FI w wq m be e lv L nv N fv F) (hg : wq.grownBy V nv.ownBlock) (ho : OwnS V 0 nv' N') (hl : nv'.ownBlock = nv.ownBlock ∨ nv'.ownBlock = some wq.heap.size) : FI w V m be e lv L nv' N' fv F := by
  have hmz := h.mz
  have hbm := h.bm
  refine ⟨ownS_base ho (fun k hk => ?_), h.f.grown hg (fun k hk e => (h.nf k e.symm).1 hk), fun k hk => ?_, h.bm, fun i x hx => ?_, (hg.block _ (by omega) (fun e => (h.nf _ e.symm).2 rfl)).trans h.e, h.b.grown hg h.b.size (ownS_above h.n), h.wm, Nat.le_trans h.mz hg.size⟩
  · rcases hl with e | e
    · rw [e] at hk; exact ownS_above h.n k hk
    · rw [e] at hk; cases hk; exact h.b.size
  · rcases hl with e | e
    · rw [e] at hk; exact h.nf k hk
    · rw [e] at hk; cases hk
      exact ⟨fun e' => by have := h.f.low _ e'; omega, by omega⟩
  · obtain ⟨b, off, cap, e1, h1, h2, h3⟩ := h.rd i x hx
    refine ⟨b, off, cap, e1, h1, ?_, h3.grown hg (fun e => h2 e.symm)⟩
    rcases hl with e | e
    · rw [e]; exact h2
    · rw [e]; intro e'; cases e'; omega
theorem FI.left {w wq V : World} {m be : Nat} {e : Ev} {lv : Value} {L : List Wa} {nv : Value} {N : List Nt} {fv fv' : Value} {F F' : List Wa} (h : FI w wq m be e lv L nv N fv F) (hg : wq.grownBy V fv.ownBlock) (ho : OwnS V 0 fv' F') (hl : fv'.ownBlock = fv.ownBlock ∨ fv'.ownBlock = some wq.heap.size) : FI w V m be e lv L nv N fv' F' := by
  have hmz := h.mz
  have hbm := h.bm
  have hab := ownS_above h.f
  refine ⟨h.n.grown hg (fun k hk e => (h.nf k hk).1 e.symm), ownS_base ho (fun k hk => ?_), fun k hk => ⟨?_, (h.nf k hk).2⟩, h.bm, fun i x hx => ?_, (hg.block _ (by omega) (fun e => by have := hab _ e.symm; omega)).trans h.e, h.b.grown hg h.b.size (fun k hk => Nat.le_trans h.wm (hab k hk)), h.wm, Nat.le_trans h.mz hg.size⟩
  · rcases hl with e | e
    · rw [e] at hk; exact hab k hk
    · rw [e] at hk; cases hk; exact h.mz
  · rcases hl with e | e
    · rw [e]; exact (h.nf k hk).1
    · rw [e]; intro e'; cases e'
      have := h.n.low _ hk
      omega
  · obtain ⟨b, off, cap, e1, h1, h2, h3⟩ := h.rd i x hx
    exact ⟨b, off, cap, e1, h1, h2, h3.grown hg (fun e => by have := hab _ e.symm; omega)⟩
end Go.Proofs.YtoacignhobchbaaGreatDoor

namespace Go.Proofs.YtoacignhobchbaaGreatDoor
open Go.RowKit
/-- what an empty disk comes up as -/
noncomputable def svUp (id : Int) : Sv := ⟨true, [logF []], id, epochD [], [], 0, trNew, []⟩
theorem rec_empty : GivesW 27 (fun x => #[x]) [] [] [logF []] 0 :=
  wrec_gap_any [] [logF []] 0 (fun v W hv => by
    have h := read_no v [] logN 7 W hv (good_slim good_none) (.inr ⟨good_none, ⟨[], [], gap_none _⟩, rfl⟩)
    exact h)
    (gives_own fun v W hv => write_new v [] [] [] logN [] W hv (good_slim good_none) good_none named_log (by decide) (gap_none _) (by decide))
theorem boot_none (id : Int) (h0 : 0 ≤ id) (h1 : id < 3) (w : World) : Calls Tryz.prog 15 #[.int .i64 id, .agg #[.slice none 0 0]] w (GivesV w (svUp id) 0) :=
  sboot_ok (.slice none 0 0) [] [logF []] [] id w (DiskV.nil w) (by intro f hf; simp at hf) h0 h1 rec_empty

end Go.Proofs.YtoacignhobchbaaGreatDoor

namespace Go.Proofs.YtoacignhobchbaaGreatDoor
open Go.RowKit

/-- a server in a box that was made behind the world w -/
def InBox (w W : World) (k : Nat) (s : Sv) : Prop :=
  ∃ ad nd cd al nl cl an nn cn ai ni ci aw nw cw, Box10 W k s.up (.slice ad nd cd) s.id s.ep (.slice al nl cl) s.dn s.tr.z (.slice an nn cn) (.slice ai ni ci) (.slice aw nw cw) ∧
    SvV W (.agg #[.bool s.up, .slice ad nd cd, .int .i64 s.id, .int .i64 s.ep, .slice al nl cl, .int .i64 s.dn, .int .i64 s.tr.z, .slice an nn cn, .slice ai ni ci, .slice aw nw cw]) s ∧ Below w.heap.size w W
theorem InBox.next {w W V : World} {k : Nat} {s : Sv} (h : InBox w W k s) (hb : Below W.heap.size W V) : InBox w V k s := by
  obtain ⟨ad, nd, cd, al, nl, cl, an, nn, cn, ai, ni, ci, aw, nw, cw, h1, h2, h3⟩ := h
  exact ⟨ad, nd, cd, al, nl, cl, an, nn, cn, ai, ni, ci, aw, nw, cw, h1.next hb, h2.next hb, nnext h3 hb⟩
theorem inbox_new {w W : World} {s : Sv} {ad al an ai aw : Option Addr} {nd cd nl cl nn cn ni ci nw cw : Nat} (hb : Below w.heap.size w W) (h : SvV W (.agg #[.bool s.up, .slice ad nd cd, .int .i64 s.id, .int .i64 s.ep, .slice al nl cl, .int .i64 s.dn, .int .i64 s.tr.z, .slice an nn cn, .slice ai ni ci, .slice aw nw cw]) s) :
    InBox w (W.alloc (.cells #[.bool s.up, .slice ad nd cd, .int .i64 s.id, .int .i64 s.ep, .slice al nl cl, .int .i64 s.dn, .int .i64 s.tr.z, .slice an nn cn, .slice ai ni ci, .slice aw nw cw] 36)) W.heap.size s :=
  ⟨ad, nd, cd, al, nl, cl, an, nn, cn, ai, ni, ci, aw, nw, cw, Box10.new W s.up s.id s.ep s.dn s.tr.z _ _ _ _ _, h.alloc _, nnext hb (allocB _ _)⟩
theorem box10_put10 {W : World} {k : Nat} {up0 : Bool} {id0 ep0 dn0 z0 : Int} {vd0 vl0 vn0 vs0 vw0 : Value} (h : Box10 W k up0 vd0 id0 ep0 vl0 dn0 z0 vn0 vs0 vw0) (up : Bool) (id ep dn z : Int) (vd vl vn vs vw : Value) :
    Box10 (put10 W k (.bool up) vd (.int .i64 id) (.int .i64 ep) vl (.int .i64 dn) (.int .i64 z) vn vs vw) k up vd id ep vl dn z vn vs vw := by
  unfold Box10 at *
  unfold put10
  have e0 : ((W).setCell ⟨k, 0, none⟩ (.bool up)).heap[k]? = some (.cells #[.bool up, vd0, .int .i64 id0, .int .i64 ep0, vl0, .int .i64 dn0, .int .i64 z0, vn0, vs0, vw0] 36 (0, 0)) := block_set (j := 0) (.bool up) h
  have e1 : (((W).setCell ⟨k, 0, none⟩ (.bool up)).setCell ⟨k, 1, none⟩ (vd)).heap[k]? = some (.cells #[.bool up, vd, .int .i64 id0, .int .i64 ep0, vl0, .int .i64 dn0, .int .i64 z0, vn0, vs0, vw0] 36 (0, 0)) := block_set (j := 1) (vd) e0
  have e2 : ((((W).setCell ⟨k, 0, none⟩ (.bool up)).setCell ⟨k, 1, none⟩ (vd)).setCell ⟨k, 2, none⟩ (.int .i64 id)).heap[k]? = some (.cells #[.bool up, vd, .int .i64 id, .int .i64 ep0, vl0, .int .i64 dn0, .int .i64 z0, vn0, vs0, vw0] 36 (0, 0)) := block_set (j := 2) (.int .i64 id) e1
  have e3 : (((((W).setCell ⟨k, 0, none⟩ (.bool up)).setCell ⟨k, 1, none⟩ (vd)).setCell ⟨k, 2, none⟩ (.int .i64 id)).setCell ⟨k, 3, none⟩ (.int .i64 ep)).heap[k]? = some (.cells #[.bool up, vd, .int .i64 id, .int .i64 ep, vl0, .int .i64 dn0, .int .i64 z0, vn0, vs0, vw0] 36 (0, 0)) := block_set (j := 3) (.int .i64 ep) e2
  have e4 : ((((((W).setCell ⟨k, 0, none⟩ (.bool up)).setCell ⟨k, 1, none⟩ (vd)).setCell ⟨k, 2, none⟩ (.int .i64 id)).setCell ⟨k, 3, none⟩ (.int .i64 ep)).setCell ⟨k, 4, none⟩ (vl)).heap[k]? = some (.cells #[.bool up, vd, .int .i64 id, .int .i64 ep, vl, .int .i64 dn0, .int .i64 z0, vn0, vs0, vw0] 36 (0, 0)) := block_set (j := 4) (vl) e3
  have e5 : (((((((W).setCell ⟨k, 0, none⟩ (.bool up)).setCell ⟨k, 1, none⟩ (vd)).setCell ⟨k, 2, none⟩ (.int .i64 id)).setCell ⟨k, 3, none⟩ (.int .i64 ep)).setCell ⟨k, 4, none⟩ (vl)).setCell ⟨k, 5, none⟩ (.int .i64 dn)).heap[k]? = some (.cells #[.bool up, vd, .int .i64 id, .int .i64 ep, vl, .int .i64 dn, .int .i64 z0, vn0, vs0, vw0] 36 (0, 0)) := block_set (j := 5) (.int .i64 dn) e4
  have e6 : ((((((((W).setCell ⟨k, 0, none⟩ (.bool up)).setCell ⟨k, 1, none⟩ (vd)).setCell ⟨k, 2, none⟩ (.int .i64 id)).setCell ⟨k, 3, none⟩ (.int .i64 ep)).setCell ⟨k, 4, none⟩ (vl)).setCell ⟨k, 5, none⟩ (.int .i64 dn)).setCell ⟨k, 6, none⟩ (.int .i64 z)).heap[k]? = some (.cells #[.bool up, vd, .int .i64 id, .int .i64 ep, vl, .int .i64 dn, .int .i64 z, vn0, vs0, vw0] 36 (0, 0)) := block_set (j := 6) (.int .i64 z) e5
  have e7 : (((((((((W).setCell ⟨k, 0, none⟩ (.bool up)).setCell ⟨k, 1, none⟩ (vd)).setCell ⟨k, 2, none⟩ (.int .i64 id)).setCell ⟨k, 3, none⟩ (.int .i64 ep)).setCell ⟨k, 4, none⟩ (vl)).setCell ⟨k, 5, none⟩ (.int .i64 dn)).setCell ⟨k, 6, none⟩ (.int .i64 z)).setCell ⟨k, 7, none⟩ (vn)).heap[k]? = some (.cells #[.bool up, vd, .int .i64 id, .int .i64 ep, vl, .int .i64 dn, .int .i64 z, vn, vs0, vw0] 36 (0, 0)) := block_set (j := 7) (vn) e6
  have e8 : ((((((((((W).setCell ⟨k, 0, none⟩ (.bool up)).setCell ⟨k, 1, none⟩ (vd)).setCell ⟨k, 2, none⟩ (.int .i64 id)).setCell ⟨k, 3, none⟩ (.int .i64 ep)).setCell ⟨k, 4, none⟩ (vl)).setCell ⟨k, 5, none⟩ (.int .i64 dn)).setCell ⟨k, 6, none⟩ (.int .i64 z)).setCell ⟨k, 7, none⟩ (vn)).setCell ⟨k, 8, none⟩ (vs)).heap[k]? = some (.cells #[.bool up, vd, .int .i64 id, .int .i64 ep, vl, .int .i64 dn, .int .i64 z, vn, vs, vw0] 36 (0, 0)) := block_set (j := 8) (vs) e7
  have e9 : (((((((((((W).setCell ⟨k, 0, none⟩ (.bool up)).setCell ⟨k, 1, none⟩ (vd)).setCell ⟨k, 2, none⟩ (.int .i64 id)).setCell ⟨k, 3, none⟩ (.int .i64 ep)).setCell ⟨k, 4, none⟩ (vl)).setCell ⟨k, 5, none⟩ (.int .i64 dn)).setCell ⟨k, 6, none⟩ (.int .i64 z)).setCell ⟨k, 7, none⟩ (vn)).setCell ⟨k, 8, none⟩ (vs)).setCell ⟨k, 9, none⟩ (vw)).heap[k]? = some (.cells #[.bool up, vd, .int .i64 id, .int .i64 ep, vl, .int .i64 dn, .int .i64 z, vn, vs, vw] 36 (0, 0)) := block_set (j := 9) (vw) e8
  exact e9
theorem newZ (w : World) : Box10 (w.alloc (.cells #[.bool false, .slice none 0 0, .int .i64 0, .int .i64 0, .slice none 0 0, .int .i64 0, .int .i64 0, .slice none 0 0, .slice none 0 0, .slice none 0 0] 36)) w.heap.size false (.slice none 0 0) 0 0 (.slice none 0 0) 0 0 (.slice none 0 0) (.slice none 0 0) (.slice none 0 0) := Box10.new w false 0 0 0 0 _ _ _ _ _

set_option maxHeartbeats 1000000 in
/-- a server stored over another one -/
theorem inbox_over {w W : World} {k : Nat} {s : Sv} {ad al an ai aw : Option Addr} {nd cd nl cl nn cn ni ci nw cw B : Nat} {up0 : Bool} {id0 ep0 dn0 z0 : Int} {ad0 al0 an0 ai0 aw0 : Option Addr} {nd0 cd0 nl0 cl0 nn0 cn0 ni0 ci0 nw0 cw0 : Nat} (hb : Below w.heap.size w W) (hk : w.heap.size ≤ k) (hk2 : k < B) (h : SvV W (.agg #[.bool s.up, .slice ad nd cd, .int .i64 s.id, .int .i64 s.ep, .slice al nl cl, .int .i64 s.dn, .int .i64 s.tr.z, .slice an nn cn, .slice ai ni ci, .slice aw nw cw]) s) (hf : Fresh B (.slice ai ni ci))
    (hz : Box10 W k up0 (.slice ad0 nd0 cd0) id0 ep0 (.slice al0 nl0 cl0) dn0 z0 (.slice an0 nn0 cn0) (.slice ai0 ni0 ci0) (.slice aw0 nw0 cw0)) :
    InBox w (put10 W k (.bool s.up) (.slice ad nd cd) (.int .i64 s.id) (.int .i64 s.ep) (.slice al nl cl) (.int .i64 s.dn) (.int .i64 s.tr.z) (.slice an nn cn) (.slice ai ni ci) (.slice aw nw cw)) k s := by
  refine ⟨ad, nd, cd, al, nl, cl, an, nn, cn, ai, ni, ci, aw, nw, cw, box10_put10 hz _ _ _ _ _ _ _ _ _ _, ?_, put10_below hb hk _ _ _ _ _ _ _ _ _ _⟩
  obtain ⟨vd, vl, vn, vs, vw, e, h1, h2, h3, h4, h5⟩ := h
  simp only [Value.agg.injEq, Array.mk.injEq, List.cons.injEq] at e
  obtain ⟨_, rfl, _, _, rfl, _, _, rfl, rfl, rfl, _⟩ := e
  exact put10_new (s := s) hz.dumb h1 h2 h3 h4 (hf.away hk2) h5
theorem seq_empty {W V : World} {v : Value} {xs : List Int} (hx : xs = []) (h : SeqV W v xs) : SeqV V v xs := by
  rcases h with h | ⟨_, _, _, _, _, _, _, h0, _⟩
  · exact .inl h
  · exact absurd hx h0
theorem put10_sv0 {W : World} {k : Nat} (hk : Dumb W k) {up : Bool} {id ep dn z : Int} {ad al an ai aw : Option Addr} {nd cd nl cl nn cn ni ci nw cw : Nat} {v : Value} {s : Sv} (hs : s.tr.ss = []) (h : SvV W v s) :
    SvV (put10 W k (.bool up) (.slice ad nd cd) (.int .i64 id) (.int .i64 ep) (.slice al nl cl) (.int .i64 dn) (.int .i64 z) (.slice an nn cn) (.slice ai ni ci) (.slice aw nw cw)) v s := by
  have one : ∀ {W : World} {j : Nat} {u : Value}, (∀ t, u ≠ .string t) → Dumb W k → SvV W v s → Dumb (W.setCell ⟨k, j, none⟩ u) k ∧ SvV (W.setCell ⟨k, j, none⟩ u) v s := by
    intro W j u hu hk h
    refine ⟨hk.set hu, ?_⟩
    obtain ⟨vd, vl, vn, vs, vw, rfl, h1, h2, h3, h4, h5⟩ := h
    exact ⟨vd, vl, vn, vs, vw, rfl, disk_dumb h1 hk u, log_dumb h2 hk u, nodes_dumb h3 hk u, seq_empty hs h4, watches_dumb h5 hk u⟩
  obtain ⟨k0, h0⟩ := one (j := 0) (u := .bool up) (by simp) hk h
  obtain ⟨k1, h1⟩ := one (j := 1) (u := .slice ad nd cd) (by simp) k0 h0
  obtain ⟨k2, h2⟩ := one (j := 2) (u := .int .i64 id) (by simp) k1 h1
  obtain ⟨k3, h3⟩ := one (j := 3) (u := .int .i64 ep) (by simp) k2 h2
  obtain ⟨k4, h4⟩ := one (j := 4) (u := .slice al nl cl) (by simp) k3 h3
  obtain ⟨k5, h5⟩ := one (j := 5) (u := .int .i64 dn) (by simp) k4 h4
  obtain ⟨k6, h6⟩ := one (j := 6) (u := .int .i64 z) (by simp) k5 h5
  obtain ⟨k7, h7⟩ := one (j := 7) (u := .slice an nn cn) (by simp) k6 h6
  obtain ⟨k8, h8⟩ := one (j := 8) (u := .slice ai ni ci) (by simp) k7 h7
  exact (one (j := 9) (u := .slice aw nw cw) (by simp) k8 h8).2

set_option maxHeartbeats 1000000 in
/-- a server without sessions stored over another one -/
theorem inbox_over0 {w W : World} {k : Nat} {s : Sv} {ad al an ai aw : Option Addr} {nd cd nl cl nn cn ni ci nw cw : Nat} {up0 : Bool} {id0 ep0 dn0 z0 : Int} {ad0 al0 an0 ai0 aw0 : Option Addr} {nd0 cd0 nl0 cl0 nn0 cn0 ni0 ci0 nw0 cw0 : Nat} (hb : Below w.heap.size w W) (hk : w.heap.size ≤ k) (hss : s.tr.ss = []) (h : SvV W (.agg #[.bool s.up, .slice ad nd cd, .int .i64 s.id, .int .i64 s.ep, .slice al nl cl, .int .i64 s.dn, .int .i64 s.tr.z, .slice an nn cn, .slice ai ni ci, .slice aw nw cw]) s)
    (hz : Box10 W k up0 (.slice ad0 nd0 cd0) id0 ep0 (.slice al0 nl0 cl0) dn0 z0 (.slice an0 nn0 cn0) (.slice ai0 ni0 ci0) (.slice aw0 nw0 cw0)) :
    InBox w (put10 W k (.bool s.up) (.slice ad nd cd) (.int .i64 s.id) (.int .i64 s.ep) (.slice al nl cl) (.int .i64 s.dn) (.int .i64 s.tr.z) (.slice an nn cn) (.slice ai ni ci) (.slice aw nw cw)) k s :=
  ⟨ad, nd, cd, al, nl, cl, an, nn, cn, ai, ni, ci, aw, nw, cw, box10_put10 hz _ _ _ _ _ _ _ _ _ _, put10_sv0 hz.dumb hss h, put10_below hb hk _ _ _ _ _ _ _ _ _ _⟩
end Go.Proofs.YtoacignhobchbaaGreatDoor

namespace Go.Proofs.YtoacignhobchbaaGreatDoor
open Go.RowKit

/-- how far Decode has come: the result's cells and the cursor -/
structure Dec (w W : World) (r : List UInt8) (b : Bool) : Prop where
  res : TxnAt W w.heap.size t0
  cur : Cur W (w.heap.size + 1) r b
  size : w.heap.size + 2 ≤ W.heap.size
  below : Below w.heap.size w W
theorem Dec.took {w W V : World} {r r' : List UInt8} {b b' : Bool} (h : Dec w W r b) (hc : Cur V (w.heap.size + 1) r' b') (ho : Only (w.heap.size + 1) W V) : Dec w V r' b' :=
  ⟨h.res.other ho (by omega), hc, by rw [ho.size]; exact h.size, ho.below h.below (by omega)⟩
theorem Dec.kept {w W V : World} {r : List UInt8} {b : Bool} (h : Dec w W r b) (hb : Below W.heap.size W V) : Dec w V r b :=
  ⟨h.res.kept hb (by have := h.size; omega), h.cur.kept hb (by have := h.size; omega), Nat.le_trans h.size hb.size, h.below.trans (hb.mono h.below.size)⟩
theorem Dec.new {w : World} {s : List UInt8} : Dec w ((w.alloc (.cells #[.int .i64 0, .int .i64 0, .int .i64 0, .string ⟨#[]⟩, .string ⟨#[]⟩, .int .i64 0, .int .i64 0] 53)).alloc (.cells #[.string ⟨s.toArray⟩, .bool false] 204)) s false := by
  refine ⟨?_, ?_, by simp, ((Below.refl _ _).alloc (Nat.le_refl _) _).alloc (by simp) _⟩
  · exact (Below.heap_alloc _ _ _ (by simp)).trans (heap_new _ _)
  · have := heap_new (w.alloc (.cells #[.int .i64 0, .int .i64 0, .int .i64 0, .string ⟨#[]⟩, .string ⟨#[]⟩, .int .i64 0, .int .i64 0] 53)) (.cells #[.string ⟨s.toArray⟩, .bool false] 204)
    rwa [World.size_alloc] at this
end Go.Proofs.YtoacignhobchbaaGreatDoor

namespace Go.Proofs.YtoacignhobchbaaGreatDoor
open Go.RowKit

theorem recs_small {ts : List WTxn} (h : Logs ts) (hl : ts.length ≤ 100) : (recsL ts).length ≤ 48700 := by
  have := recsL_le ts h.good
  omega
/-- a log that lies in a row of its own, and may stand on a disk -/
structure OutL (w W : World) (v : Value) (m : List WTxn) : Prop where
  own : OwnL W w.heap.size v m
  below : Below w.heap.size w W
  log : Logs m
theorem OutL.next {w W V : World} {v : Value} {m : List WTxn} (h : OutL w W v m) (hb : Below W.heap.size W V) : OutL w V v m := ⟨h.own.next hb, below_next2 h.below hb, h.log⟩

theorem OutL.more {w W V : World} {k c : Nat} {a : Option Addr} {m : List WTxn} {t : WTxn} {O : Obj} {v' : Value} (h : OutL w W (.slice a k c) m) (hk : m.length = k) (hg : gdE t = 0) (hf : follB m t = true)
    (hown : V.ownsRow w.heap.size 53 7 v' (k + 1) (cellsT m ++ tcells t)) (hgr : (W.alloc O).grownBy V (Value.slice a k c).ownBlock) :
    ∃ a' c', v' = .slice a' (k + 1) c' ∧ OutL w V (.slice a' (k + 1) c') (m ++ [t]) := by
  obtain ⟨a', c', rfl, h1, h2⟩ := app_done h.below h.own (Nat.le_refl _) hk hown hgr
  exact ⟨a', c', rfl, h1, h2, h.log.snoc hg hf⟩

end Go.Proofs.YtoacignhobchbaaGreatDoor

namespace Go.Proofs.YtoacignhobchbaaGreatDoor
open Go.RowKit

set_option maxRecDepth 10000 in
set_option maxHeartbeats 1000000 in
theorem kboots_any (w : World) : Calls Tryz.prog 6 #[] w fun e w' => e = .returned (.bool true) ∧ Below w.heap.size w w' := by
  have C := fun W => boot_none 1 (by omega) (by omega) W
  go_enter Tryz.func6, Tryz.ntmps6
  go_wp2_with fail
  refine (C _).mono ?_
  rintro e w1 ⟨v1, rfl, hv1, hb1⟩
  obtain ⟨ad, nd, cd, al, cl, an, cn, ai, ci, aw, cw, rfl, _, _, _, _, _⟩ := hv1.five
  simp only [show (svUp 1).up = true from rfl, show (svUp 1).id = 1 from rfl]
  generalize (svUp 1).ep = ep
  generalize (svUp 1).ts.length = nl
  generalize (svUp 1).dn = dn
  generalize (svUp 1).tr.z = tz
  generalize (svUp 1).tr.ns.length = nn
  generalize (svUp 1).tr.ss.length = ni
  generalize (svUp 1).ws.length = nw
  have hB := hide (nnext hb1 (allocB _ (.cells #[.bool true, .slice ad nd cd, .int .i64 1, .int .i64 ep, .slice al nl cl, .int .i64 dn, .int .i64 tz, .slice an nn cn, .slice ai ni ci, .slice aw nw cw] 36)))
  clear hv1 C hb1
  go_wp2_with fail
  go_ret
  exact ⟨rfl, unhide hB⟩

theorem appF_logF {m : List WTxn} {t : WTxn} (h : Logs (m ++ [t])) (hl : m.length ≤ 99) : GivesF 67 (fun x => #[x, txnV t, .bool true]) [logF m] [logF (m ++ [t])] 0 := by
  have hg := (Logs.at (a := m) (b := []) h).1
  have h1 := recs_small h.left (by omega)
  have h2 := recL_le hg
  have g0 : GoodD [logF m] := good_one (by simp; omega)
  have g1 : GoodD [⟨logN, recsL m, recL t⟩] := good_one (by omega)
  refine wappF_safe [logF m] [⟨logN, recsL m, recL t⟩] [logF (m ++ [t])] t 0 hg (gives_own fun v W hv => ?_) (givesF_own fun v W hv => ?_)
  · have := write_there v [logF m] [] [] (logF m) logN (recL t) W hv (good_slim g0) g0 (there_one _ _) (by simp only [logF, List.length_nil]; omega)
    simpa [logF] using this
  · have := sync_there v [⟨logN, recsL m, recL t⟩] [] [] ⟨logN, recsL m, recL t⟩ logN W hv (good_slim g1) g1 (there_one _ _)
    simpa [logF, recsL_snoc] using this
/-- a log that a server without any can take -/
structure Tkn (m : List WTxn) : Prop where
  log : Logs m
  few : m.length ≤ 40
  pos : ∀ x ∈ m, 0 < x.z
theorem Tkn.at {a b : List WTxn} {t : WTxn} (h : Tkn (a ++ t :: b)) : Logs (a ++ [t]) ∧ ¬ t.z ≤ lastZ a ∧ a.length ≤ 40 := by
  have h1 : Logs (a ++ [t]) := by
    have := h.log
    rw [show a ++ t :: b = (a ++ [t]) ++ b by simp] at this
    exact this.left
  refine ⟨h1, ?_, by have := h.few; simp at this; omega⟩
  have hp := h.pos t (by simp)
  have hf := (Logs.at (a := a) (b := []) h1).2
  by_cases h0 : a.length = 0
  · obtain rfl := List.length_eq_zero_iff.1 h0
    rw [lastZ_nil]; omega
  · rw [follB_some h0] at hf
    simpa using hf
theorem Tkn.front {a b : List WTxn} (h : Tkn (a ++ b)) : Tkn a := ⟨h.log.left, by have := h.few; simp at this; omega, fun x hx => h.pos x (by simp [hx])⟩
end Go.Proofs.YtoacignhobchbaaGreatDoor

namespace Go.Proofs.YtoacignhobchbaaGreatDoor
open Go.RowKit

/-- a server that took this log safely -/
noncomputable def svF (m : List WTxn) : Sv := ⟨true, [logF m], 0, epochD [], m, 0, trNew, []⟩
theorem svF_fits {m : List WTxn} (h : Tkn m) : Fits (svF m) := by
  have h1 := recs_small h.log (by have := h.few; omega)
  have g0 : GoodD [logF m] := good_one (by simp; omega)
  refine ⟨by simp [svF], good_slim g0, by simp only [svF]; have := h.few; omega, fun x hx => ?_, by simp [svF, trNew], fun x hx => ?_, by simp [svF, trNew], by simp [svF], by simp [svF]⟩
  · have hg := h.log.good x hx
    have h2 := gdE_zero hg
    have h3 := fmB_le h2.2.2.2
    omega
  · simp only [svF, trNew, List.mem_singleton] at hx
    subst hx
    decide
theorem svF_took {m : List WTxn} (h : Tkn m) {i : Nat} {t : WTxn} (ht : m[i]? = some t) : Took (svF (m.take i)) t true 0 (svF (m.take (i + 1))) ∧ Tkn (m.take i) := by
  have hi := (List.getElem?_eq_some_iff.1 ht).1
  have e : m = m.take i ++ t :: m.drop (i + 1) := by
    obtain ⟨hk, rfl⟩ := List.getElem?_eq_some_iff.1 ht
    simp
  rw [take_more1 ht]
  generalize m.take i = a at *
  generalize m.drop (i + 1) = b at *
  subst e
  obtain ⟨h1, h2, h3⟩ := h.at
  exact ⟨.inr (.inr ⟨h2, rfl, [logF (a ++ [t])], rfl, appF_logF h1 (by omega)⟩), h.front⟩

theorem zero_other {W : World} {k q : Nat} (h : Box10 W k false (.slice none 0 0) 0 0 (.slice none 0 0) 0 0 (.slice none 0 0) (.slice none 0 0) (.slice none 0 0)) (hne : k ≠ q) (x0 x1 x2 x3 x4 x5 x6 x7 x8 x9 : Value) :
    Box10 (put10 W q x0 x1 x2 x3 x4 x5 x6 x7 x8 x9) k false (.slice none 0 0) 0 0 (.slice none 0 0) 0 0 (.slice none 0 0) (.slice none 0 0) (.slice none 0 0) := by
  unfold put10
  exact (Box10.other (Box10.other (Box10.other (Box10.other (Box10.other (Box10.other (Box10.other (Box10.other (Box10.other (Box10.other h hne) hne) hne) hne) hne) hne) hne) hne) hne) hne)

set_option maxRecDepth 10000 in
set_option maxHeartbeats 4000000 in
theorem filled_any (v : Value) (m : List WTxn) (w : World) (hv : LogV w v m) (hT : Tkn m) :
    Calls Tryz.prog 5 #[v] w fun e w' => ∃ v', e = .returned (.tuple #[v', .bool true]) ∧ SvV w' v' (svF m) ∧ Below w.heap.size w w' := by
  have HV := hide hv
  have HT := hide hT
  have hlen : m.length ≤ 40 := hT.few
  have CB := hide (fun W => boot_none 0 (by omega) (by omega) W)
  obtain ⟨a, c, rfl⟩ := log_slice hv
  clear hv hT
  go_enter Tryz.func5, Tryz.ntmps5
  go_wp2_with fail
  have Z0 := hide (newZ w)
  have B0 := hide (allocB w (.cells #[.bool false, .slice none 0 0, .int .i64 0, .int .i64 0, .slice none 0 0, .int .i64 0, .int .i64 0, .slice none 0 0, .slice none 0 0, .slice none 0 0] 36))
  obtain ⟨k0, hk0⟩ : ∃ k0, w.heap.size = k0 := ⟨_, rfl⟩
  have HK0 : Hid (w.heap.size ≤ k0) := hide (by omega)
  rw [hk0] at Z0
  rw [hk0]
  generalize w.alloc (.cells #[.bool false, .slice none 0 0, .int .i64 0, .int .i64 0, .slice none 0 0, .int .i64 0, .int .i64 0, .slice none 0 0, .slice none 0 0, .slice none 0 0] 36) = W0 at *
  refine (unhide CB _).mono ?_
  rintro e w1 ⟨v1, rfl, hv1, hb1⟩
  obtain ⟨s0, hs0⟩ : ∃ s0, s0 = svUp 0 := ⟨_, rfl⟩
  rw [← hs0] at hv1
  obtain ⟨ad, nd, cd, al, cl, an, cn, ai, ci, aw, cw, rfl, _, _, _, _, _⟩ := hv1.five
  have HI0 := hide (inbox_new (nnext (unhide B0) hb1) hv1)
  have Z1 := hide (((unhide Z0).next hb1).next (allocB w1 (.cells #[.bool s0.up, .slice ad nd cd, .int .i64 s0.id, .int .i64 s0.ep, .slice al s0.ts.length cl, .int .i64 s0.dn, .int .i64 s0.tr.z, .slice an s0.tr.ns.length cn, .slice ai s0.tr.ss.length ci, .slice aw s0.ws.length cw] 36)))
  obtain ⟨q, hq⟩ : ∃ q, w1.heap.size = q := ⟨_, rfl⟩
  have HKQ : Hid (k0 ≠ q) := hide (by have := ((unhide Z0).next hb1).lt; omega)
  have HQ : Hid (w.heap.size ≤ q) := hide (by have := (nnext (unhide B0) hb1).size; omega)
  rw [hq] at HI0
  have HS0 : Hid (s0 = svF (m.take 0)) := hide (by rw [hs0, List.take_zero]; rfl)
  clear hv1 hb1 Z0 B0 CB hs0 hk0
  go_upto_region 2 with fail
  generalize w1.alloc (.cells #[.bool s0.up, .slice ad nd cd, .int .i64 s0.id, .int .i64 s0.ep, .slice al s0.ts.length cl, .int .i64 s0.dn, .int .i64 s0.tr.z, .slice an s0.tr.ns.length cn, .slice ai s0.tr.ss.length ci, .slice aw s0.ws.length cw] 36) = W1 at *
  rw [unhide HS0] at HI0
  clear hq
  go_wp2_with fail
  go_loopg [5, 6] m.length (fun kx s5 s6 wr => ∃ i : Nat, s5 = .int .i64 0 ∧ s6 = .int .i64 i ∧ i ≤ m.length ∧ m.length - i ≤ kx ∧ Hid (InBox w wr q (svF (m.take i))) ∧ Hid (Box10 wr k0 false (.slice none 0 0) 0 0 (.slice none 0 0) 0 0 (.slice none 0 0) (.slice none 0 0) (.slice none 0 0)))
  case atStart => exact ⟨0, rfl, rfl, Nat.zero_le _, Nat.le_refl _, HI0, Z1⟩
  case round =>
    obtain ⟨i, rfl, rfl, hi, hgi, HI, HZ⟩ := hrel
    by_cases hlt : i < m.length
    · obtain ⟨t, ht⟩ : ∃ t, m[i]? = some t := ⟨_, List.getElem?_eq_getElem hlt⟩
      obtain ⟨hTk, hTi⟩ := svF_took (unhide HT) ht
      have hgd := (unhide HT).log.good t (List.mem_of_getElem? ht)
      have HCT := hide (fun v W (h : SvV W v (svF (m.take i))) => stakeF_any _ _ v t true 0 W h (svF_fits hTi) hTk (by have := fmB_le (gdE_zero hgd).2.2.2; omega) (by have := (gdE_zero hgd).2.2.1; omega) (by simp [svF]; omega))
      obtain ⟨bad, bnd, bcd, bal, bnl, bcl, ban, bnn, bcn, bai, bni, bci, baw, bnw, bcw, hbx, hsv, hbw⟩ := unhide HI
      obtain ⟨b, off, cap, he, hb, r, _⟩ := log_row ((unhide HV).next hbw) ht
      simp only [Value.slice.injEq, true_and] at he
      obtain ⟨rfl, rfl⟩ := he
      have e0 := r.z ht
      have e1 := r.o ht
      have e2 := r.s ht
      have e3 := r.p ht
      have e4 := r.d ht
      have e5 := r.v ht
      have e6 := r.w ht
      have hii : (i : Int) < (m.length : Int) := by omega
      obtain ⟨s', hs'⟩ : ∃ s', s' = svF (m.take (i + 1)) := ⟨_, rfl⟩
      have hss : Hid (s'.tr.ss = []) := hide (by rw [hs']; rfl)
      rw [← hs'] at HCT
      obtain ⟨s, hs⟩ : ∃ s, s = svF (m.take i) := ⟨_, rfl⟩
      rw [← hs] at HCT hbx hsv
      have HS' := hide hs'
      obtain ⟨x0, x1, x2, x3, x4, x5, x6, x7, x8, x9⟩ := hbx.cells
      have HBX := hide hbx
      have HSV := hide hsv
      have HBW := hide hbw
      have hqlt := hbx.lt
      clear r ht hb hTk hTi hgd hs hs' hbx hsv hbw HI
      obtain ⟨tz, tw, tx, tp, td, ty, tu⟩ := t
      unfold txnV at HCT
      simp only at e0 e1 e2 e3 e4 e5 e6
      go_upto_region 5 with fail
      go_region_with (first
        | (go_at_call 16; refine (unhide HCT _ _ ((unhide HSV).next (Below.refl _ _).drew)).mono ?_; rintro e w2 ⟨cad, cnd, ccd, cal, cnl, ccl, can, cnn, ccn, cai, cni, cci, caw, cnw, ccw, rfl, S2, hb2⟩; have B2 := hide (nbelow_drew hb2); have X2 := hide ((unhide HBX).next (unhide B2)); obtain ⟨y0, y1, y2, y3, y4, y5, y6, y7, y8, y9⟩ := (unhide X2).cells; have yf0 := (unhide X2).froz 0; have yf1 := (unhide X2).froz 1; have yf2 := (unhide X2).froz 2; have yf3 := (unhide X2).froz 3; have yf4 := (unhide X2).froz 4; have yf5 := (unhide X2).froz 5; have yf6 := (unhide X2).froz 6; have yf7 := (unhide X2).froz 7; have yf8 := (unhide X2).froz 8; have yf9 := (unhide X2).froz 9; have HBw2 := hide (nnext (unhide HBW) (unhide B2)); have Z2 := hide ((unhide HZ).next (unhide B2)); have HR2 := hide (inbox_over0 (unhide HBw2) (unhide HQ) (unhide hss) (unhide S2).1 (unhide X2)); have HZ3 := hide (zero_other (unhide Z2) (unhide HKQ) (.bool s'.up) (.slice cad cnd ccd) (.int .i64 s'.id) (.int .i64 s'.ep) (.slice cal cnl ccl) (.int .i64 s'.dn) (.int .i64 s'.tr.z) (.slice can cnn ccn) (.slice cai cni cci) (.slice caw cnw ccw)); unfold put10 at HR2 HZ3; clear hb2))
      all_goals go_wp2_with fail
      all_goals
        go_roundg (m.length - (i + 1))
        case measure => omega
        case rel =>
          refine ⟨i + 1, rfl, by simp, by omega, Nat.le_refl _, ?_, ?_⟩
          · rw [← unhide HS']
            with_reducible exact HR2
          · with_reducible exact HZ3
    · obtain rfl : i = m.length := by omega
      have hki : ¬ ((m.length : Int) < (m.length : Int)) := by omega
      rw [List.take_length] at HI
      obtain ⟨bad, bnd, bcd, bal, bnl, bcl, ban, bnn, bcn, bai, bni, bci, baw, bnw, bcw, hbx, hsv, hbw⟩ := unhide HI
      obtain ⟨s, hs⟩ : ∃ s, s = svF m := ⟨_, rfl⟩
      rw [← hs] at hbx hsv
      have HS := hide hs
      have hss : s.tr.ss = [] := by rw [hs]; rfl
      have HR := hide (inbox_over0 hbw (unhide HK0) hss hsv (unhide HZ))
      have HRS := hide (put10_sv0 (up := s.up) (id := s.id) (ep := s.ep) (dn := s.dn) (z := s.tr.z) (ad := bad) (nd := bnd) (cd := bcd) (al := bal) (nl := bnl) (cl := bcl) (an := ban) (nn := bnn) (cn := bcn) (ai := bai) (ni := bni) (ci := bci) (aw := baw) (nw := bnw) (cw := bcw) (unhide HZ).dumb hss hsv)
      obtain ⟨x0, x1, x2, x3, x4, x5, x6, x7, x8, x9⟩ := hbx.cells
      obtain ⟨r0, r1, r2, r3, r4, r5, r6, r7, r8, r9⟩ := (unhide HZ).cells
      have rf0 := (unhide HZ).froz 0
      have rf1 := (unhide HZ).froz 1
      have rf2 := (unhide HZ).froz 2
      have rf3 := (unhide HZ).froz 3
      have rf4 := (unhide HZ).froz 4
      have rf5 := (unhide HZ).froz 5
      have rf6 := (unhide HZ).froz 6
      have rf7 := (unhide HZ).froz 7
      have rf8 := (unhide HZ).froz 8
      have rf9 := (unhide HZ).froz 9
      clear hs hbx hsv hbw hss HI
      go_wp2_with fail
      refine bodyPost_ret (v := .tuple #[.agg #[.bool s.up, .slice bad bnd bcd, .int .i64 s.id, .int .i64 s.ep, .slice bal bnl bcl, .int .i64 s.dn, .int .i64 s.tr.z, .slice ban bnn bcn, .slice bai bni bci, .slice baw bnw bcw], .bool true]) (by simp [results, Tryz.results5, go_sem, r0, r1, r2, r3, r4, r5, r6, r7, r8, r9]) rfl ?_
      obtain ⟨_, _, _, _, _, _, _, _, _, _, _, _, _, _, _, _, hsv2, hbw2⟩ := unhide HR
      exact ⟨_, rfl, by rw [← unhide HS]; exact unhide HRS, hbw2⟩
end Go.Proofs.YtoacignhobchbaaGreatDoor

namespace Go.Proofs.YtoacignhobchbaaGreatDoor
open Go.RowKit

/-- n in ten decimal digits, noughts ahead -/
def ten (n : Nat) : List UInt8 := (List.range 10).map fun t => Lib.dg n (9 - t)
theorem nDigits_le_ten (n : Nat) (h : n ≤ 2147483647) : Lib.nDigits n ≤ 10 := by
  have aux : ∀ k u, u < 10 ^ (k + 1) → Lib.nDigits u ≤ k + 1 := by
    intro k
    induction k with
    | zero => intro u hu; rw [Lib.nDigits_small (by simpa using hu)]; omega
    | succ k ih =>
      intro u hu
      by_cases h : u < 10
      · rw [Lib.nDigits_small h]; omega
      · rw [Lib.nDigits_big h]
        have := ih (u / 10) (by rw [Nat.pow_succ] at hu; omega)
        omega
  exact aux 9 n (by omega)

theorem dg_zero (u p : Nat) (h : u < 10 ^ p) : Lib.dg u p = 48 := by
  unfold Lib.dg
  rw [Nat.div_eq_of_lt h]
  rfl

theorem ten_eq (n : Nat) (h : n ≤ 2147483647) : Lib.repeatL [48] (10 - (Lib.decDigits n).length) ++ Lib.decDigits n = ten n := by
  have hd := nDigits_le_ten n h
  have hp := Lib.nDigits_pos n
  have hr : ∀ c, Lib.repeatL [48] c = List.replicate c 48 := fun c => by
    have := Lib.repeatL_replicate 48 1 c
    simpa using this
  rw [Lib.decDigits_length, hr, Lib.decDigits_eq]
  apply List.ext_getElem
  · simp [ten]; omega
  · intro i h1 h2
    have hi : i < 10 := by simpa [ten] using h2
    by_cases hc : i < 10 - Lib.nDigits n
    · rw [List.getElem_append_left (by simpa using hc)]
      simp only [List.getElem_replicate, ten, List.getElem_map, List.getElem_range]
      exact (dg_zero n (9 - i) (Nat.lt_of_lt_of_le (Lib.lt_pow_nDigits n) (Nat.pow_le_pow_right (by decide) (by omega)))).symm
    · rw [List.getElem_append_right (by simp; omega)]
      simp only [List.length_replicate, ten, List.getElem_map, List.getElem_range]
      congr 1
      omega

end Go.Proofs.YtoacignhobchbaaGreatDoor
