/-
  store.Commit: the walk.
  store.Commit, where it goes on: the walk.
-/
import Derived.Test.YtoacignhobchbaaGreatDoorSUAX
import Derived.Test.YtoacignhobchbaaGreatDoorSUAP
import Derived.Deep.Cut
import Derived.Deep.CutRange
namespace Go.Proofs.YtoacignhobchbaaGreatDoor
open Go.RowKit

/-- a server and notes are handed back -/
def GivesCm (w : World) (s : Sv) (N : List Nt) (E : Int) (e : Ending) (w' : World) : Prop := ∃ v a c, e = .returned (.tuple #[v, .slice a N.length c, .int .i64 E]) ∧ SvV w' v s ∧ SeqV w' (.slice a N.length c) N ∧ Below w.heap.size w w'
theorem givesCm_no {w w' : World} {E : Int} {e : Ending} (he : e = .returned (.tuple #[.agg #[.bool false, .slice none 0 0, .int .i64 0, .int .i64 0, .slice none 0 0, .int .i64 0, .int .i64 0, .slice none 0 0, .slice none 0 0, .slice none 0 0], .slice none 0 0, .int .i64 E])) (hb : Below w.heap.size w w') : GivesCm w sv0 [] E e w' :=
  ⟨_, none, 0, he, SvV.zero w', SeqV.nil w', hb⟩
theorem zero_put {w W : World} {k : Nat} (hb : Below w.heap.size w W) (hk : w.heap.size ≤ k) : Below w.heap.size w (put10 W k (.bool false) (.slice none 0 0) (.int .i64 0) (.int .i64 0) (.slice none 0 0) (.int .i64 0) (.int .i64 0) (.slice none 0 0) (.slice none 0 0) (.slice none 0 0)) := put10_below hb hk _ _ _ _ _ _ _ _ _ _
theorem logV_sub {w : World} {a : Option Addr} {c lo hi : Nat} {ts : List WTxn} (h : LogV w (.slice a ts.length c) ts) (h1 : lo ≤ hi) (h2 : hi ≤ ts.length) :
    (c = lo → LogV w (.slice a (hi - lo) 0) ((ts.drop lo).take (hi - lo))) ∧ (c ≠ lo → LogV w (.slice (Option.map (fun x => x.add (lo * 7)) a) (hi - lo) (c - lo)) ((ts.drop lo).take (hi - lo))) := by
  have hl : (ts.drop lo).length = ts.length - lo := by simp
  obtain ⟨d1, d2⟩ := h.drop (k := lo) (by omega)
  rw [← hl] at d1 d2
  exact ⟨fun e => (d1 e).take (by omega), fun e => (d2 e).take (by omega)⟩
theorem CI.done {w W : World} {ka kn kr : Nat} {s : Sv} {N : List Nt} {vd vl vn vs vw vN : Value} (h : CI w W ka kn kr s N vd vl vn vs vw vN) (n : Int) : CI w (W.setCell ⟨ka, 5, none⟩ (.int .i64 n)) ka kn kr ⟨s.up, s.fs, s.id, s.ep, s.ts, n, s.tr, s.ws⟩ N vd vl vn vs vw vN := by
  have b1 : Box10 (W.setCell ⟨ka, 5, none⟩ (.int .i64 n)) ka s.up vd s.id s.ep vl n s.tr.z vn vs vw := block_set (j := 5) _ h.box
  refine ⟨b1, (Below.heap_setCell _ _ _ _ (Ne.symm h.ne)).trans h.nb, own_setB h.d h.box (by decide) _, own_setB h.l h.box (by decide) _, own_setB h.n h.box (by decide) _, own_setB h.i h.box (by decide) _, own_setB h.o h.box (by decide) _, own_setB h.t h.box (by decide) _, h.below.setCell h.ha _, h.ha, h.hn, h.ne, h.r.other h.r1, h.r1, h.r2, h.hr⟩
theorem own_put {α : Type} [Lay α] {W : World} {B k : Nat} {v : Value} {xs : List α} {up : Bool} {id ep dn z : Int} {vd vl vn vs vw : Value} (h : OwnS W B v xs) (hb : Box10 W k up vd id ep vl dn z vn vs vw) (hne : 36 ≠ Lay.ty α) (x0 x1 x2 x3 x4 x5 x6 x7 x8 x9 : Value) : OwnS (put10 W k x0 x1 x2 x3 x4 x5 x6 x7 x8 x9) B v xs := by
  have hk := own_boxS h hb hne
  unfold put10
  exact (((((((((h.other hk _).other hk _).other hk _).other hk _).other hk _).other hk _).other hk _).other hk _).other hk _).other hk _
theorem CI.out {w W : World} {ka kn kr : Nat} {s : Sv} {N : List Nt} {vd vl vn vs vw vN : Value} (h : CI w W ka kn kr s N vd vl vn vs vw vN) (x0 x1 x2 x3 x4 x5 x6 x7 x8 x9 : Value) :
    SvV (put10 W kr x0 x1 x2 x3 x4 x5 x6 x7 x8 x9) (.agg #[.bool s.up, vd, .int .i64 s.id, .int .i64 s.ep, vl, .int .i64 s.dn, .int .i64 s.tr.z, vn, vs, vw]) s ∧ SeqV (put10 W kr x0 x1 x2 x3 x4 x5 x6 x7 x8 x9) vN N ∧ Below w.heap.size w (put10 W kr x0 x1 x2 x3 x4 x5 x6 x7 x8 x9) :=
  ⟨⟨vd, vl, vn, vs, vw, rfl, seq_disk.1 (own_put h.d h.r (by decide) _ _ _ _ _ _ _ _ _ _).seq, seq_log.1 (own_put h.l h.r (by decide) _ _ _ _ _ _ _ _ _ _).seq, (own_put h.n h.r (by decide) _ _ _ _ _ _ _ _ _ _).seq, (own_put h.i h.r (by decide) _ _ _ _ _ _ _ _ _ _).seq, (own_put h.o h.r (by decide) _ _ _ _ _ _ _ _ _ _).seq⟩, (own_put h.t h.r (by decide) _ _ _ _ _ _ _ _ _ _).seq, put10_below h.below h.hr _ _ _ _ _ _ _ _ _ _⟩

end Go.Proofs.YtoacignhobchbaaGreatDoor

namespace Go.Proofs.YtoacignhobchbaaGreatDoor
open Go.RowKit

/-- where Commit begins: a copy of the server in a box, no notes -/
theorem ci_start {w W1 w1 : World} {s : Sv} {ad al an ai aw : Option Addr} {nd cd cl cn ci cw : Nat} {bd bl bn bi bw : Option Addr} {md fd fl fn fi fw B1 B2 : Nat} (h : CB w W1 s.up (.slice ad nd cd) s.id s.ep (.slice al s.ts.length cl) s.dn s.tr.z (.slice an s.tr.ns.length cn) (.slice ai s.tr.ss.length ci) (.slice aw s.ws.length cw))
    (h1 : W1.heap.size ≤ B1) (h2 : B1 ≤ B2) (od : OwnS w1 W1.heap.size (.slice bd md fd) s.fs) (ol : OwnS w1 B1 (.slice bl s.ts.length fl) s.ts) (on : OwnS w1 B2 (.slice bn s.tr.ns.length fn) s.tr.ns) (oi : OwnS w1 B2 (.slice bi s.tr.ss.length fi) s.tr.ss) (ow : OwnS w1 B2 (.slice bw s.ws.length fw) s.ws) (hb : Below W1.heap.size W1 w1) :
    CI w ((w1.alloc (.cells #[.bool s.up, .slice bd md fd, .int .i64 s.id, .int .i64 s.ep, .slice bl s.ts.length fl, .int .i64 s.dn, .int .i64 s.tr.z, .slice bn s.tr.ns.length fn, .slice bi s.tr.ss.length fi, .slice bw s.ws.length fw] 36)).alloc (.cells #[.slice none 0 0] 42)) w1.heap.size (w1.heap.size + 1) (w.heap.size + 1) s [] (.slice bd md fd) (.slice bl s.ts.length fl) (.slice bn s.tr.ns.length fn) (.slice bi s.tr.ss.length fi) (.slice bw s.ws.length fw) (.slice none 0 0) := by
  have hz := h.below.size
  have hz1 := hb.size
  have hr := h.r.lt
  have a1 := allocB w1 (.cells #[.bool s.up, .slice bd md fd, .int .i64 s.id, .int .i64 s.ep, .slice bl s.ts.length fl, .int .i64 s.dn, .int .i64 s.tr.z, .slice bn s.tr.ns.length fn, .slice bi s.tr.ss.length fi, .slice bw s.ws.length fw] 36)
  have a2 := allocB (w1.alloc (.cells #[.bool s.up, .slice bd md fd, .int .i64 s.id, .int .i64 s.ep, .slice bl s.ts.length fl, .int .i64 s.dn, .int .i64 s.tr.z, .slice bn s.tr.ns.length fn, .slice bi s.tr.ss.length fi, .slice bw s.ws.length fw] 36)) (.cells #[.slice none 0 0] 42)
  have b := nnext a1 a2
  refine ⟨(Box10.new w1 s.up s.id s.ep s.dn s.tr.z _ _ _ _ _).next a2, ?_, (od.next b).lower hz, (ol.next b).lower (by omega), (on.next b).lower (by omega), (oi.next b).lower (by omega), (ow.next b).lower (by omega), .inl ⟨rfl, rfl⟩, nnext (nnext h.below hb) b, by omega, by omega, by omega, (h.r.next hb).next b, by omega, by omega, by omega⟩
  have := heap_alloc_new (w1.alloc (.cells #[.bool s.up, .slice bd md fd, .int .i64 s.id, .int .i64 s.ep, .slice bl s.ts.length fl, .int .i64 s.dn, .int .i64 s.tr.z, .slice bn s.tr.ns.length fn, .slice bi s.tr.ss.length fi, .slice bw s.ws.length fw] 36)) (.cells #[.slice none 0 0] 42)
  rwa [show (w1.alloc (.cells #[.bool s.up, .slice bd md fd, .int .i64 s.id, .int .i64 s.ep, .slice bl s.ts.length fl, .int .i64 s.dn, .int .i64 s.tr.z, .slice bn s.tr.ns.length fn, .slice bi s.tr.ss.length fi, .slice bw s.ws.length fw] 36)).heap.size = w1.heap.size + 1 by simp] at this

/-- the sessions that a call hands back lie in new memory -/
def FrS (w : World) (e : Ending) : Prop := ∀ x0 x1 x2 x3 x4 x5 x6 x7 x8 x9 y z : Value, e = .returned (.tuple #[.agg #[x0, x1, x2, x3, x4, x5, x6, x7, x8, x9], y, z]) → Fresh w.heap.size x8
theorem frs_of {w : World} {x0 x1 x2 x3 x4 x5 x6 x7 x8 x9 y z : Value} (h : Fresh w.heap.size x8) : FrS w (.returned (.tuple #[.agg #[x0, x1, x2, x3, x4, x5, x6, x7, x8, x9], y, z])) := by
  intro u0 u1 u2 u3 u4 u5 u6 u7 u8 u9 t r e
  simp only [Ending.returned.injEq, Value.tuple.injEq, Value.agg.injEq, Array.mk.injEq, List.cons.injEq] at e
  obtain ⟨⟨_, _, _, _, _, _, _, _, rfl, _⟩, _⟩ := e
  exact h

set_option maxRecDepth 10000 in
set_option maxHeartbeats 8000000 in
theorem scommit_runF (s : Sv) (v : Value) (dN nN k : Nat) (xs : List WTxn) (w : World) (hv : SvV w v s) (hf : Fits s) (hdn : s.dn = dN) (h1 : dN ≤ nN) (h2 : nN ≤ s.ts.length) (hxs : xs = (s.ts.drop dN).take (nN - dN)) (hC : Chn s xs k) (hB : CBase s xs) :
    Calls Tryz.prog 9 #[v, .int .i64 nN] w fun e w' => (k = xs.length → GivesCm w ⟨(csP s xs k).1.up, (csP s xs k).1.fs, (csP s xs k).1.id, (csP s xs k).1.ep, (csP s xs k).1.ts, nN, (csP s xs k).1.tr, (csP s xs k).1.ws⟩ (csP s xs k).2 0 e w' ∧ FrS w e) ∧ (∀ x, xs[k]? = some x → GivesCm w sv0 [] (appE (csP s xs k).1.tr x) e w') := by
  have CC := hide (fun W (hW : Below w.heap.size w W) => scopied_any s v W (hv.next hW) hf)
  obtain ⟨ad, nd, cd, al, cl, an, cn, ai, ci, aw, cw, rfl, d1, l1, n1, s1, k1⟩ := hv.five
  have hxl : xs.length = nN - dN := by rw [hxs]; simp; omega
  have HLS := hide (fun W (hW : Below w.heap.size w W) => logV_sub (l1.next hW) h1 h2)
  rw [← hxs] at HLS
  have hcl : s.ts.length ≤ cl ∧ cl ≤ 9223372036854775807 := by
    rcases l1 with ⟨_, _, e, e0, hm⟩ | ⟨_, _, _, e, h3, h4, _⟩
    · simp only [Value.slice.injEq] at e; rw [e0] at e ⊢; simp only [maxLen] at hm; simp; omega
    · simp only [Value.slice.injEq] at e; simp only [maxLen] at h4; omega
  have hll : s.ts.length * 72 ≤ 140737488355328 := hf.l
  have HC := hide hC
  have HBs := hide hB
  have hkl := hC.le
  clear hv d1 l1 n1 s1 k1 hxs hC hB hf
  have hdi : ¬ s.dn < 0 := by omega
  have hni : ¬ (nN : Int) < s.dn := by omega
  have HDN := hide hdn
  clear hdn
  have hnl : ¬ (nN : Int) > (s.ts.length : Int) := by omega
  go_enter Tryz.func9, Tryz.ntmps9
  go_upto_region 1 with fail
  have X1 := hide (CB.start w s.up s.id s.ep s.dn s.tr.z (.slice ad nd cd) (.slice al s.ts.length cl) (.slice an s.tr.ns.length cn) (.slice ai s.tr.ss.length ci) (.slice aw s.ws.length cw))
  generalize (w.alloc (.cells #[.bool s.up, .slice ad nd cd, .int .i64 s.id, .int .i64 s.ep, .slice al s.ts.length cl, .int .i64 s.dn, .int .i64 s.tr.z, .slice an s.tr.ns.length cn, .slice ai s.tr.ss.length ci, .slice aw s.ws.length cw] 36)).alloc (.cells #[.bool false, .slice none 0 0, .int .i64 0, .int .i64 0, .slice none 0 0, .int .i64 0, .int .i64 0, .slice none 0 0, .slice none 0 0, .slice none 0 0] 36) = W1 at *
  obtain ⟨x0, x1, x2, x3, x4, x5, x6, x7, x8, x9⟩ := (unhide X1).s.cells
  go_upto_region 4 with fail
  go_wp2_with fail
  with_reducible refine (unhide CC _ (unhide X1).below).mono ?_
  rintro e w1 ⟨bd, md, fd, bl, fl, bn, fn, bi, fi, bw, fw, B1, B2, rfl, g1, g2, od, hd1, ol, hl2, on, oi, ow, hb1⟩
  have CI0 := hide (ci_start (unhide X1) g1 g2 od ol on oi ow hb1)
  have X2 := hide (((unhide X1).next hb1).next (nnext (allocB w1 (.cells #[.bool s.up, .slice bd md fd, .int .i64 s.id, .int .i64 s.ep, .slice bl s.ts.length fl, .int .i64 s.dn, .int .i64 s.tr.z, .slice bn s.tr.ns.length fn, .slice bi s.tr.ss.length fi, .slice bw s.ws.length fw] 36)) (allocB (w1.alloc (.cells #[.bool s.up, .slice bd md fd, .int .i64 s.id, .int .i64 s.ep, .slice bl s.ts.length fl, .int .i64 s.dn, .int .i64 s.tr.z, .slice bn s.tr.ns.length fn, .slice bi s.tr.ss.length fi, .slice bw s.ws.length fw] 36)) (.cells #[.slice none 0 0] 42))))
  clear g1 g2 od hd1 ol hl2 on oi ow hb1 X1 CC x0 x1 x2 x3 x4 x5 x6 x7 x8 x9
  go_upto_region 7 with fail
  generalize (w1.alloc (.cells #[.bool s.up, .slice bd md fd, .int .i64 s.id, .int .i64 s.ep, .slice bl s.ts.length fl, .int .i64 s.dn, .int .i64 s.tr.z, .slice bn s.tr.ns.length fn, .slice bi s.tr.ss.length fi, .slice bw s.ws.length fw] 36)).alloc (.cells #[.slice none 0 0] 42) = W2 at *
  generalize w1.heap.size + 1 = kn at *
  generalize w1.heap.size = ka at *
  have x4 := (unhide X2).s.cells.2.2.2.2.1
  rw [unhide HDN]
  go_cut [41, 42, 43] from 36 (fun t41 t42 t43 wx => ∃ la lcc, t41 = .slice la (nN - dN) lcc ∧ t42 = .int .i64 ((nN - dN : Nat) : Int) ∧ t43 = .int .i64 0 ∧ wx = W2 ∧ Hid (∀ W, Below w.heap.size w W → LogV W (.slice la (nN - dN) lcc) xs))
  case first =>
    by_cases hlc : cl = dN
    · subst hlc
      go_wp2_with fail
      all_goals go_meet
      all_goals exact ⟨_, _, rfl, rfl, rfl, rfl, hide fun W hW => (unhide HLS W hW).1 (by first | rfl | trivial)⟩
    · go_wp2_with fail
      all_goals go_meet
      all_goals exact ⟨_, _, rfl, rfl, rfl, rfl, hide fun W hW => (unhide HLS W hW).2 hlc⟩
  case rest =>
    obtain ⟨la, lcc, rfl, rfl, rfl, rfl, HLX⟩ := hcut
    rw [← hxl] at HLX ⊢
    have HXL := hide hxl
    have hx63 : xs.length ≤ 1000000000000000 := by omega
    clear HLS hxl h1 h2 hcl hll hdi hni hnl X2 x4
    go_wp2_with fail
    go_loopg [43] xs.length (fun kx s43 wr => ∃ i : Nat, s43 = .int .i64 i ∧ i ≤ k ∧ xs.length - i ≤ kx ∧ Hid (∃ ad nd cd al cl an cn ai ci aw cw aN cN, CI w wr ka kn (w.heap.size + 1) (csP s xs i).1 (csP s xs i).2 (.slice ad nd cd) (.slice al (csP s xs i).1.ts.length cl) (.slice an (csP s xs i).1.tr.ns.length cn) (.slice ai (csP s xs i).1.tr.ss.length ci) (.slice aw (csP s xs i).1.ws.length cw) (.slice aN (csP s xs i).2.length cN)))
    case atStart => exact ⟨0, rfl, Nat.zero_le _, Nat.le_refl _, hide (by rw [csP_zero]; exact ⟨_, _, _, _, _, _, _, _, _, _, _, _, _, unhide CI0⟩)⟩
    case round =>
      obtain ⟨i, rfl, hi, hgi, HI⟩ := hrel
      by_cases hlt : i < xs.length
      · obtain ⟨x, hx⟩ : ∃ x, xs[i]? = some x := ⟨_, List.getElem?_eq_getElem hlt⟩
        obtain ⟨ead, eend, ecd, eal, ecl, ean, ecn, eai, eci, eaw, ecw, eaN, ecN, hci⟩ := unhide HI
        obtain ⟨b, o, c, he, hb, q, hq9⟩ := log_row (unhide HLX wr hci.below) hx
        simp only [Value.slice.injEq] at he
        obtain ⟨rfl, he2, rfl⟩ := he
        clear he2 hq9
        have e0 := q.z hx
        have e1 := q.o hx
        have e2 := q.s hx
        have e3 := q.p hx
        have e4 := q.d hx
        have e5 := q.v hx
        have e6 := q.w hx
        have hii : (i : Int) < (xs.length : Int) := by omega
        have hal := allocB wr (.cells #[.int .i64 x.z, .int .i64 x.o, .int .i64 x.s, .string ⟨x.p.toArray⟩, .string ⟨x.d.toArray⟩, .int .i64 x.v, .int .i64 x.w] 53)
        have HC1 := hide (commit1_any w _ ka kn (w.heap.size + 1) (csP s xs i).1 (csP s xs i).2 x ead eal ean eai eaw eaN eend ecd ecl ecn eci ecw ecN (hci.next hal) (chn_fit (unhide HBs) (unhide HC) hi hx))
        have HT1 := TAt.new wr x
        have HX := hide hx
        have HR0 := hide (hci.r.next hal)
        have HB1 := hide (nnext hci.below hal)
        have t0 := HT1.c0
        have t1 := HT1.c1
        have t2 := HT1.c2
        have t3 := HT1.c3
        have t4 := HT1.c4
        have t5 := HT1.c5
        have t6 := HT1.c6
        clear q hb hx hal HT1 hci HI
        obtain ⟨z, op, u, p, d, y, vv⟩ := x
        unfold txnV at HC1
        simp only at e0 e1 e2 e3 e4 e5 e6 t0 t1 t2 t3 t4 t5 t6
        go_upto_region 10 with fail
        generalize wr.alloc (.cells #[.int .i64 z, .int .i64 op, .int .i64 u, .string ⟨p.toArray⟩, .string ⟨d.toArray⟩, .int .i64 y, .int .i64 vv] 53) = W6 at *
        generalize wr.heap.size = kx at *
        clear e0 e1 e2 e3 e4 e5 e6
        go_wp2_with fail
        refine (unhide HC1).mono ?_
        rintro e w7 ⟨rfl, hout⟩
        have HO := hide hout
        clear HC1 hout t0 t1 t2 t3 t4 t5 t6
        have HX' := unhide HX
        obtain ⟨E, hE⟩ : ∃ E, appE (csP s xs i).1.tr ⟨z, op, u, p, d, y, vv⟩ = E := ⟨_, rfl⟩
        rw [hE] at HO
        rw [hE]
        by_cases hik : i < k
        · obtain rfl : E = 0 := by rw [← hE]; exact (unhide HC).ok i _ hik HX'
          have HIN : Hid (∃ ad nd cd al cl an cn ai ci aw cw aN cN, CI w w7 ka kn (w.heap.size + 1) (csP s xs (i + 1)).1 (csP s xs (i + 1)).2 (.slice ad nd cd) (.slice al (csP s xs (i + 1)).1.ts.length cl) (.slice an (csP s xs (i + 1)).1.tr.ns.length cn) (.slice ai (csP s xs (i + 1)).1.tr.ss.length ci) (.slice aw (csP s xs (i + 1)).1.ws.length cw) (.slice aN (csP s xs (i + 1)).2.length cN)) := hide (by
            rw [csP_succ HX']
            simp only [stP, List.length_append]
            exact (unhide HO).2.2 rfl)
          clear HO hE HX'
          go_wp2_with fail
          go_roundg (xs.length - (i + 1))
          case measure => omega
          case rel => exact ⟨i + 1, rfl, by omega, Nat.le_refl _, HIN⟩
        · obtain rfl : i = k := by omega
          have hE0 : E ≠ 0 := by rw [← hE]; exact (unhide HC).stop _ HX'
          have HR7 := (unhide HR0).next ((unhide HO).2.1 hE0)
          have HBw := hide (zero_put (unhide HO).1 (show w.heap.size ≤ w.heap.size + 1 by omega))
          unfold put10 at HBw
          obtain ⟨r0, r1, r2, r3, r4, r5, r6, r7, r8, r9⟩ := HR7.cells
          have rf0 := HR7.froz 0
          have rf1 := HR7.froz 1
          have rf2 := HR7.froz 2
          have rf3 := HR7.froz 3
          have rf4 := HR7.froz 4
          have rf5 := HR7.froz 5
          have rf6 := HR7.froz 6
          have rf7 := HR7.froz 7
          have rf8 := HR7.froz 8
          have rf9 := HR7.froz 9
          have HE := hide hE
          clear HR7 HO HR0 hE HX'
          go_wp2_with fail
          refine bodyPost_ret (v := .tuple #[.agg #[.bool false, .slice none 0 0, .int .i64 0, .int .i64 0, .slice none 0 0, .int .i64 0, .int .i64 0, .slice none 0 0, .slice none 0 0, .slice none 0 0], .slice none 0 0, .int .i64 E]) (by simp [results, Tryz.results9, go_sem, r0, r1, r2, r3, r4, r5, r6, r7, r8, r9]) rfl ?_
          refine ⟨fun h => by omega, fun x' hx' => ?_⟩
          rw [unhide HX] at hx'
          cases hx'
          rw [unhide HE]
          exact givesCm_no rfl (unhide HBw)
      · obtain rfl : i = k := by omega
        have hik : i = xs.length := by omega
        obtain ⟨ead, eend, ecd, eal, ecl, ean, ecn, eai, eci, eaw, ecw, eaN, ecN, hci⟩ := unhide HI
        obtain ⟨S, hS⟩ : ∃ S, (csP s xs i).1 = S := ⟨_, rfl⟩
        obtain ⟨NN, hNN⟩ : ∃ NN, (csP s xs i).2 = NN := ⟨_, rfl⟩
        rw [hS, hNN] at hci
        have HD := hide (hci.done nN)
        have HFR := hide (fresh_ownS hci.i)
        have x5 := hci.box.cells.2.2.2.2.2.1
        have xf5 := hci.box.froz 5
        have HS := hide hS
        have HNN := hide hNN
        have HIK := hide hik
        have hki : ¬ ((i : Int) < (xs.length : Int)) := by omega
        clear hci HI hS hNN hik
        go_upto_region 15 with fail
        generalize wr.setCell ⟨ka, 5, none⟩ (.int .i64 nN) = W8 at *
        clear x5 xf5
        obtain ⟨x0, x1, x2, x3, x4, x5, x6, x7, x8, x9⟩ := (unhide HD).box.cells
        have n0 : W8.cell? ⟨kn, 0, none⟩ = some (.slice eaN NN.length ecN) := by simp [World.cell?, (unhide HD).nb]
        obtain ⟨r0, r1, r2, r3, r4, r5, r6, r7, r8, r9⟩ := (unhide HD).r.cells
        have rf0 := (unhide HD).r.froz 0
        have rf1 := (unhide HD).r.froz 1
        have rf2 := (unhide HD).r.froz 2
        have rf3 := (unhide HD).r.froz 3
        have rf4 := (unhide HD).r.froz 4
        have rf5 := (unhide HD).r.froz 5
        have rf6 := (unhide HD).r.froz 6
        have rf7 := (unhide HD).r.froz 7
        have rf8 := (unhide HD).r.froz 8
        have rf9 := (unhide HD).r.froz 9
        have HOUT := hide ((unhide HD).out (.bool S.up) (.slice ead eend ecd) (.int .i64 S.id) (.int .i64 S.ep) (.slice eal S.ts.length ecl) (.int .i64 nN) (.int .i64 S.tr.z) (.slice ean S.tr.ns.length ecn) (.slice eai S.tr.ss.length eci) (.slice eaw S.ws.length ecw))
        have hl1 := (unhide HD).box.lt
        have hl2 := (unhide HD).r.lt
        have HB8 := hide (unhide HD).below
        have hne1 : w.heap.size + 1 ≠ ka := (unhide HD).r1
        have hne2 : w.heap.size + 1 ≠ kn := (unhide HD).r2
        have hne3 : ka ≠ w.heap.size + 1 := fun h => hne1 h.symm
        have hne4 : kn ≠ w.heap.size + 1 := fun h => hne2 h.symm
        clear HD
        simp only at x0 x1 x2 x3 x4 x5 x6 x7 x8 x9
        unfold put10 at HOUT
        go_region
        all_goals go_wp2_with fail
        all_goals refine bodyPost_ret (v := .tuple #[.agg #[.bool S.up, .slice ead eend ecd, .int .i64 S.id, .int .i64 S.ep, .slice eal S.ts.length ecl, .int .i64 nN, .int .i64 S.tr.z, .slice ean S.tr.ns.length ecn, .slice eai S.tr.ss.length eci, .slice eaw S.ws.length ecw], .slice eaN NN.length ecN, .int .i64 0]) (by simp [results, Tryz.results9, go_sem, r0, r1, r2, r3, r4, r5, r6, r7, r8, r9]) rfl ?_
        all_goals rw [unhide HS, unhide HNN]
        all_goals refine fun _ => ⟨⟨_, _, _, rfl, ?_, ?_, ?_⟩, frs_of (unhide HFR)⟩
        all_goals first
          | exact (unhide HOUT).1.next ((Below.refl _ _).drew)
          | exact (unhide HOUT).2.1.next ((Below.refl _ _).drew)
          | exact (unhide HOUT).2.2.drew
          | exact (unhide HOUT).1
          | exact (unhide HOUT).2.1
          | exact (unhide HOUT).2.2
end Go.Proofs.YtoacignhobchbaaGreatDoor
