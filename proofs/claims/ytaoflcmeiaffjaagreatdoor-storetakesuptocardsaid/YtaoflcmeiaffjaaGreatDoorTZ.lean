/-
  What aviaryref.SamePeer and SameServer answer of alike ones: the walks.
  That store and aviaryref take and crash alike.
  That an empty disk comes up; aviarylaw.boots and aviarykeep.boots return true: the walks.
-/
import Derived.Test.YtaoflcmeiaffjaaGreatDoorTH
import Derived.Test.YtaoflcmeiaffjaaGreatDoorTX
import Derived.Test.YtaoflcmeiaffjaaGreatDoorTR
import Derived.Test.YtaoflcmeiaffjaaGreatDoorTY
import Derived.Test.YtaoflcmeiaffjaaGreatDoorTS
import Derived.Test.YtaoflcmeiaffjaaGreatDoorTT
import Derived.Test.YtaoflcmeiaffjaaGreatDoorTU
import Derived.Test.YtaoflcmeiaffjaaGreatDoorTL
namespace Go.Proofs.YtaoflcmeiaffjaaGreatDoor
open Go.RowKit
set_option maxRecDepth 10000 in

set_option maxHeartbeats 1000000 in
theorem rsameP_any (id ep dn : Int) (ts : List WTxn) (v1 v2 : Value) (w : World) (hl : ts.length ≤ 1000000) (h1 : LogV w v1 ts) (h2 : LogV w v2 ts) :
    Calls Tryz.prog 41 #[.agg #[.int .i64 id, .int .i64 ep, v1, .int .i64 dn], .agg #[.int .i64 id, .int .i64 ep, v2, .int .i64 dn]] w fun e w' => e = .returned (.bool true) ∧ Below w.heap.size w w' := by
  have CL := fun W (hW : Below w.heap.size w W) => rsl_any v1 v2 ts W hl (h1.next hW) (h2.next hW)
  obtain ⟨a1, c1, rfl⟩ := log_slice h1
  obtain ⟨a2, c2, rfl⟩ := log_slice h2
  clear h1 h2 hl
  go_enter Tryz.func41, Tryz.ntmps41
  go_wp2_with fail
  refine (CL _ (nnext (allocB _ _) (allocB _ _))).mono ?_
  rintro e w1 ⟨rfl, hb1⟩
  have hB1 := nbox_then (nbox_then hb1)
  clear hb1 CL
  go_wp2_with fail
  go_ret
  exact ⟨rfl, hB1⟩

/-- nothing of it is longer than these comparisons bear -/
structure Few (s : Sv) : Prop where
  d : s.fs.length ≤ 1000000
  l : s.ts.length ≤ 1000000
  n : s.tr.ns.length ≤ 140737488355328
  si : s.tr.ss.length ≤ 140737488355328
  wa : s.ws.length ≤ 140737488355328

set_option maxRecDepth 10000 in
set_option maxHeartbeats 2000000 in
theorem rsameS_any (s : Sv) (v1 v2 : Value) (w : World) (hf : Few s) (h1 : SvV w v1 s) (h2 : SvV w v2 s) :
    Calls Tryz.prog 12 #[v1, v2] w fun e w' => e = .returned (.bool true) ∧ Below w.heap.size w w' := by
  obtain ⟨ad, nd, cd, al, cl, an, cn, ai, ci, aw, cw, rfl, d1, l1, n1, s1, k1⟩ := h1.five
  obtain ⟨bd, md, ed, bl, el, bn, en, bi, ei, bw, ew, rfl, d2, l2, n2, s2, k2⟩ := h2.five
  have CD := fun W (hW : Below w.heap.size w W) => rsame_any _ _ s.fs W hf.d (d1.next hW) (d2.next hW)
  have CP := fun W (hW : Below w.heap.size w W) => rsameP_any s.id s.ep s.dn s.ts _ _ W hf.l (l1.next hW) (l2.next hW)
  have CT := fun W (hW : Below w.heap.size w W) => rsameT_any s.tr _ _ _ _ W (n1.next hW) (s1.next hW) (n2.next hW) (s2.next hW) hf.n hf.si
  have CW := fun W (hW : Below w.heap.size w W) => rsameW_any _ _ s.ws W (k1.next hW) (k2.next hW) hf.wa
  have HD := hide CD
  have HP := hide CP
  have HT := hide CT
  have HW := hide CW
  clear CD CP CT CW h1 h2 d1 d2 l1 l2 n1 n2 s1 s2 k1 k2 hf
  obtain ⟨up, fs, id, ep, ts, dn, ⟨tz, tns, tss⟩, ws⟩ := s
  simp only at *
  go_enter Tryz.func12, Tryz.ntmps12
  go_wp2_with fail
  have X0 := Box10.new w up id ep dn tz (.slice ad nd cd) (.slice al ts.length cl) (.slice an tns.length cn) (.slice ai tss.length ci) (.slice aw ws.length cw)
  have X1 := X0.next (allocB _ (.cells #[.bool up, .slice bd md ed, .int .i64 id, .int .i64 ep, .slice bl ts.length el, .int .i64 dn, .int .i64 tz, .slice bn tns.length en, .slice bi tss.length ei, .slice bw ws.length ew] 34))
  have Y1 := Box10.new (w.alloc (.cells #[.bool up, .slice ad nd cd, .int .i64 id, .int .i64 ep, .slice al ts.length cl, .int .i64 dn, .int .i64 tz, .slice an tns.length cn, .slice ai tss.length ci, .slice aw ws.length cw] 34)) up id ep dn tz (.slice bd md ed) (.slice bl ts.length el) (.slice bn tns.length en) (.slice bi tss.length ei) (.slice bw ws.length ew)
  rw [show (w.alloc (.cells #[.bool up, .slice ad nd cd, .int .i64 id, .int .i64 ep, .slice al ts.length cl, .int .i64 dn, .int .i64 tz, .slice an tns.length cn, .slice ai tss.length ci, .slice aw ws.length cw] 34)).heap.size = w.heap.size + 1 by simp] at Y1
  have hB0 : Below w.heap.size w ((w.alloc (.cells #[.bool up, .slice ad nd cd, .int .i64 id, .int .i64 ep, .slice al ts.length cl, .int .i64 dn, .int .i64 tz, .slice an tns.length cn, .slice ai tss.length ci, .slice aw ws.length cw] 34)).alloc (.cells #[.bool up, .slice bd md ed, .int .i64 id, .int .i64 ep, .slice bl ts.length el, .int .i64 dn, .int .i64 tz, .slice bn tns.length en, .slice bi tss.length ei, .slice bw ws.length ew] 34)) := nnext (allocB _ _) (allocB _ _)
  generalize (w.alloc (.cells #[.bool up, .slice ad nd cd, .int .i64 id, .int .i64 ep, .slice al ts.length cl, .int .i64 dn, .int .i64 tz, .slice an tns.length cn, .slice ai tss.length ci, .slice aw ws.length cw] 34)).alloc (.cells #[.bool up, .slice bd md ed, .int .i64 id, .int .i64 ep, .slice bl ts.length el, .int .i64 dn, .int .i64 tz, .slice bn tns.length en, .slice bi tss.length ei, .slice bw ws.length ew] 34) = W0 at *
  have HX0 := hide X1
  have HY0 := hide Y1
  have HB0 := hide hB0
  clear X0 X1 Y1 hB0
  refine (unhide HD _ (unhide HB0)).mono ?_
  rintro e w1 ⟨rfl, hb1⟩
  have HX1 := hide ((unhide HX0).next hb1)
  have HY1 := hide ((unhide HY0).next hb1)
  have HB1 := hide (nnext (unhide HB0) hb1)
  obtain ⟨x0, x1, x2, x3, x4, x5, x6, x7, x8, x9⟩ := (unhide HX1).cells
  obtain ⟨y0, y1, y2, y3, y4, y5, y6, y7, y8, y9⟩ := (unhide HY1).cells
  clear hb1 HX0 HY0 HB0 HD
  go_wp2_with fail
  clear x0 x1 x2 x3 x4 x5 x6 x7 x8 x9 y0 y1 y2 y3 y4 y5 y6 y7 y8 y9
  refine (unhide HP _ (unhide HB1)).mono ?_
  rintro e w2 ⟨rfl, hb2⟩
  have HX2 := hide ((unhide HX1).next hb2)
  have HY2 := hide ((unhide HY1).next hb2)
  have HB2 := hide (nnext (unhide HB1) hb2)
  obtain ⟨x0, x1, x2, x3, x4, x5, x6, x7, x8, x9⟩ := (unhide HX2).cells
  obtain ⟨y0, y1, y2, y3, y4, y5, y6, y7, y8, y9⟩ := (unhide HY2).cells
  clear hb2 HX1 HY1 HB1 HP
  go_wp2_with fail
  clear x0 x1 x2 x3 x4 x5 x6 x7 x8 x9 y0 y1 y2 y3 y4 y5 y6 y7 y8 y9
  refine (unhide HT _ (unhide HB2)).mono ?_
  rintro e w3 ⟨rfl, hb3⟩
  have HX3 := hide ((unhide HX2).next hb3)
  have HY3 := hide ((unhide HY2).next hb3)
  have HB3 := hide (nnext (unhide HB2) hb3)
  obtain ⟨x0, x1, x2, x3, x4, x5, x6, x7, x8, x9⟩ := (unhide HX3).cells
  obtain ⟨y0, y1, y2, y3, y4, y5, y6, y7, y8, y9⟩ := (unhide HY3).cells
  clear hb3 HX2 HY2 HB2 HT
  go_wp2_with fail
  clear x0 x1 x2 x3 x4 x5 x6 x7 x8 x9 y0 y1 y2 y3 y4 y5 y6 y7 y8 y9
  refine (unhide HW _ (unhide HB3)).mono ?_
  rintro e w4 ⟨rfl, hb4⟩
  have HX4 := hide ((unhide HX3).next hb4)
  have HY4 := hide ((unhide HY3).next hb4)
  have HB4 := hide (nnext (unhide HB3) hb4)
  obtain ⟨x0, x1, x2, x3, x4, x5, x6, x7, x8, x9⟩ := (unhide HX4).cells
  obtain ⟨y0, y1, y2, y3, y4, y5, y6, y7, y8, y9⟩ := (unhide HY4).cells
  clear hb4 HX3 HY3 HB3 HW
  go_wp2_with fail
  clear x0 x1 x2 x3 x4 x5 x6 x7 x8 x9 y0 y1 y2 y3 y4 y5 y6 y7 y8 y9
  go_ret
  exact ⟨rfl, unhide HB4⟩

end Go.Proofs.YtaoflcmeiaffjaaGreatDoor

namespace Go.Proofs.YtaoflcmeiaffjaaGreatDoor
open Go.RowKit

theorem both_write3 (fs : List DF) (name x : List UInt8) (hs : Slim fs) (hl : fs.length ≤ 140737488355328) (hnm : name.length ≤ 140737488355328) (hx : x.length ≤ 140737488355328) :
    ∃ E d, d.length ≤ 1000000 ∧ (E ≠ 0 → d = []) ∧ (E = 0 → GoodD d) ∧ GivesF 34 (fun y => #[y, .string ⟨name.toArray⟩, .string ⟨x.toArray⟩]) fs d E ∧ GivesD 39 (fun y => #[y, .string ⟨name.toArray⟩, .string ⟨x.toArray⟩]) fs d E := by
  rcases write_cases fs name x with ⟨E, h0, h⟩ | ⟨g, A, f, B, T, hfit⟩ | ⟨g, hn, hl16, ⟨A, B, G⟩, hfit⟩
  · refine ⟨E, [], by simp, fun _ => rfl, fun h => absurd h h0, givesF_no fun v W hv => write_no v fs name x E W hv hs hnm hx h, dgives_no fun v W hv => ?_⟩
    rcases h with h | h | ⟨g, hn, h16, ⟨A, B, G⟩, rfl⟩ | ⟨g, hn, ⟨A, f, B, T, hlong⟩, rfl⟩ | ⟨g, hn, hl16, ⟨A, B, G⟩, hlong, rfl⟩
    · exact rwrite_no1 v fs name x E W hv hs hl hnm (.inl h)
    · exact rwrite_no1 v fs name x E W hv hs hl hnm (.inr h)
    · refine (rwrite_new v fs A B name x W hv hs g hn G hx).mono fun e w' ⟨v', E', he, h1, _, _, hb⟩ => ?_
      obtain ⟨rfl, rfl⟩ := h1 (by omega)
      exact ⟨he, hb⟩
    · refine (rwrite_there v fs A B f name x W hv hs g T hx).mono fun e w' ⟨v', E', he, h1, _, hb⟩ => ?_
      obtain ⟨rfl, rfl⟩ := h1 hlong
      exact ⟨he, hb⟩
    · refine (rwrite_new v fs A B name x W hv hs g hn G hx).mono fun e w' ⟨v', E', he, _, h1, _, hb⟩ => ?_
      obtain ⟨rfl, rfl⟩ := h1 hl16 hlong
      exact ⟨he, hb⟩
  · have g' : GoodD (A ++ ⟨f.n, f.s, f.t ++ x⟩ :: B) := good_set (f := f) (by rw [← T.eq]; exact g) rfl (by simp; omega)
    refine ⟨0, A ++ ⟨f.n, f.s, f.t ++ x⟩ :: B, by have := g'.few; omega, fun h => absurd rfl h, fun _ => g', givesF_own fun v W hv => write_there v fs A B f name x W hv hs g T hfit, gives_disk fun v W hv => ?_⟩
    refine (rwrite_there v fs A B f name x W hv hs g T hx).mono fun e w' ⟨v', E', he, _, h1, hb⟩ => ?_
    obtain ⟨rfl, h2⟩ := h1 hfit
    exact ⟨v', he, h2, hb⟩
  · have g' : GoodD (A ++ ⟨name, [], x⟩ :: B) := good_ins g G hn hl16 rfl (by simpa using hfit)
    refine ⟨0, A ++ ⟨name, [], x⟩ :: B, by have := g'.few; omega, fun h => absurd rfl h, fun _ => g', givesF_own fun v W hv => write_new v fs A B name x W hv hs g hn hl16 G hfit, gives_disk fun v W hv => ?_⟩
    refine (rwrite_new v fs A B name x W hv hs g hn G hx).mono fun e w' ⟨v', E', he, _, _, h1, hb⟩ => ?_
    obtain ⟨rfl, h2⟩ := h1 hl16 hfit
    exact ⟨v', he, h2, hb⟩
theorem both_sync3 (fs : List DF) (name : List UInt8) (hs : Slim fs) (hl : fs.length ≤ 140737488355328) : ∃ E d, d.length ≤ 1000000 ∧ (E ≠ 0 → d = []) ∧ (E = 0 → GoodD d) ∧ GivesF 35 (fun x => #[x, .string ⟨name.toArray⟩]) fs d E ∧ GivesD 40 (fun x => #[x, .string ⟨name.toArray⟩]) fs d E := by
  rcases loc_cases fs name with ⟨E, h⟩ | ⟨g, A, f, B, T⟩
  · have h0 : E ≠ 0 := by rcases h with ⟨_, rfl⟩ | ⟨_, _, rfl⟩ <;> decide
    exact ⟨E, [], by simp, fun _ => rfl, fun h => absurd h h0, givesF_no fun v W hv => sync_no v fs name E W hv hs h, fun v W hv => rsync_walk v fs name [] E W hv fun W' hv' => turn_no (rturn_no v fs name _ _ E W' hv' hs hl h)⟩
  · have hfl := fileOk_len (T.ok g)
    have g' : GoodD (A ++ ⟨f.n, f.s ++ f.t, []⟩ :: B) := good_set (f := f) (by rw [← T.eq]; exact g) rfl (by simp; omega)
    refine ⟨0, A ++ ⟨f.n, f.s ++ f.t, []⟩ :: B, by have := g'.few; omega, fun h => absurd rfl h, fun _ => g', givesF_own fun v W hv => sync_there v fs A B f name W hv hs g T, fun v W hv => rsync_walk v fs name _ 0 W hv fun W' hv' => ?_⟩
    refine (rturn_there v fs A B f ⟨f.n, f.s ++ f.t, []⟩ name _ #[] 0 W' hv' hs g T enter_sync1 (fun V _ => rsync1_any f V hfl)).mono fun e w' ⟨v', he, _, hd, hb⟩ => ?_
    obtain ⟨a, n, c, rfl⟩ := disk_slice (hd rfl)
    exact ⟨a, n, c, he, hd rfl, hb⟩

theorem both_append3 (fs : List DF) (t : WTxn) (safe : Bool) (hs : Slim fs) (hl : fs.length ≤ 140737488355328) (hzb : t.z ≤ 9223372036854775807) (hp : t.p.length ≤ 1048576) (hd : t.d.length ≤ 140737488355328) :
    (∃ E, E ≠ 0 ∧ ∃ d, GivesD 97 (fun x => #[x, txnV t, .bool safe]) fs d E ∧ GivesD 54 (fun x => #[x, txnV t, .bool safe]) fs d E) ∨
    ∃ d, GoodD d ∧ GivesF 97 (fun x => #[x, txnV t, .bool safe]) fs d 0 ∧ GivesD 54 (fun x => #[x, txnV t, .bool safe]) fs d 0 := by
  by_cases hg : gdE t = 0
  · have hr := recL_le hg
    obtain ⟨E, d1, hd1, h0, h1, W1, W2⟩ := both_write3 fs logN (recL t) hs hl (by decide) (by omega)
    by_cases hE : E = 0
    · subst hE
      cases safe with
      | false => exact .inr ⟨d1, h1 rfl, wappF_soft fs d1 t hg W1, rapp_soft fs d1 t hg W2⟩
      | true =>
        obtain ⟨E2, d2, hd2, k0, k1, S1, S2⟩ := both_sync3 d1 logN (good_slim (h1 rfl)) (by omega)
        by_cases hE2 : E2 = 0
        · subst hE2
          exact .inr ⟨d2, k1 rfl, wappF_safe fs d1 d2 t 0 hg W1.d S1, rapp_safe fs d1 d2 t 0 hg W2 S2⟩
        · exact .inl ⟨E2, hE2, d2, (wappF_safe fs d1 d2 t E2 hg W1.d S1).d, rapp_safe fs d1 d2 t E2 hg W2 S2⟩
    · obtain rfl := h0 hE
      exact .inl ⟨E, hE, [], wapp_err fs [] t safe E hg W1.d hE, rapp_err fs [] t safe E hg W2 hE⟩
  · exact .inl ⟨gdE t, hg, [], wapp_no fs t safe hg hd, rapp_no fs t safe hg hzb hp hd⟩
/-- what holds of both, of a server that is not too long -/
theorem both_take (s : Sv) (t : WTxn) (safe : Bool) (hf : Fits s) (hzb : t.z ≤ 9223372036854775807) (hp : t.p.length ≤ 1048576) (hd : t.d.length ≤ 140737488355328) (hn : s.ts.length ≤ 1000000000) :
    ∃ E s', (E = 0 → GoodD s'.fs ∧ s'.ts = s.ts ++ [t] ∧ s'.tr = s.tr ∧ s'.ws = s.ws) ∧ (E ≠ 0 → s' = sv0) ∧ Took s t safe E s' ∧
      (∀ v W, SvV W v s → Calls Tryz.prog 17 #[v, txnV t, .bool safe] W (GivesVF W s' E)) ∧ (∀ v W, SvV W v s → Calls Tryz.prog 19 #[v, txnV t, .bool safe] W (GivesV W s' E)) := by
  have hfl : s.fs.length ≤ 140737488355328 := by have := hf.d; omega
  have zr : ∀ {E : Int} {v : Value} {W : World}, (∀ ad nd cd al cl an cn ai ci aw cw, v = .agg #[.bool s.up, .slice ad nd cd, .int .i64 s.id, .int .i64 s.ep, .slice al s.ts.length cl, .int .i64 s.dn, .int .i64 s.tr.z, .slice an s.tr.ns.length cn, .slice ai s.tr.ss.length ci, .slice aw s.ws.length cw] → DiskV W (.slice ad nd cd) s.fs → LogV W (.slice al s.ts.length cl) s.ts → Calls Tryz.prog 19 #[v, txnV t, .bool safe] W (GivesZ W E)) → SvV W v s → Calls Tryz.prog 19 #[v, txnV t, .bool safe] W (GivesV W sv0 E) := by
    intro E v W h hv
    obtain ⟨ad, nd, cd, al, cl, an, cn, ai, ci, aw, cw, hve, d1, l1, _⟩ := hv.five
    exact (h ad nd cd al cl an cn ai ci aw cw hve d1 l1).mono fun e w' hz => gives_zero hz.1 hz.2
  by_cases hz : t.z ≤ lastZ s.ts
  · have hT : Took s t safe 13 sv0 := .inl ⟨hz, rfl, rfl⟩
    refine ⟨13, sv0, fun h => absurd h (by decide), fun _ => rfl, hT, fun v W hv => stakeF_any s sv0 v t safe 13 W hv hf hT (by omega) hd hn, fun v W hv => zr (fun ad nd cd al cl an cn ai ci aw cw e d1 l1 => ?_) hv⟩
    subst e
    exact rtake_order s.up s.id s.ep s.dn s.tr.z s.fs s.ts t safe _ _ an ai aw _ cn _ ci _ cw W d1 l1 hz
  · rcases both_append3 s.fs t safe hf.df hfl hzb hp hd with ⟨E, hE, d, G1, G2⟩ | ⟨d, g, G1, G2⟩
    · have hT : Took s t safe E sv0 := .inr (.inl ⟨hz, hE, rfl, d, G1⟩)
      refine ⟨E, sv0, fun h => absurd h hE, fun _ => rfl, hT, fun v W hv => stakeF_any s sv0 v t safe E W hv hf hT (by omega) hd hn, fun v W hv => zr (fun ad nd cd al cl an cn ai ci aw cw e d1 l1 => ?_) hv⟩
      subst e
      exact rtake_err s.up s.id s.ep s.dn s.tr.z s.fs s.ts t safe _ _ an ai aw _ cn _ ci _ cw W d1 l1 hz E d hE G2
    · have hT : Took s t safe 0 ⟨s.up, d, s.id, s.ep, s.ts ++ [t], s.dn, s.tr, s.ws⟩ := .inr (.inr ⟨hz, rfl, d, rfl, G1⟩)
      exact ⟨0, ⟨s.up, d, s.id, s.ep, s.ts ++ [t], s.dn, s.tr, s.ws⟩, fun _ => ⟨g, rfl, rfl, rfl⟩, fun h => absurd rfl h, hT, fun v W hv => stakeF_any s _ v t safe 0 W hv hf hT (by omega) hd hn, fun v W hv => rtake_ok s v t safe d W hv hf hz hn G2⟩
theorem both_crashS (s : Sv) (keep : Int) (hf : Fits s) : ∃ E s', Few s' ∧
    (∀ v W, SvV W v s → Calls Tryz.prog 20 #[v, .int .i64 keep] W (GivesV W s' E)) ∧ (∀ v W, SvV W v s → Calls Tryz.prog 21 #[v, .int .i64 keep] W (GivesV W s' E)) := by
  obtain ⟨E, d, hd, G1, G2⟩ := both_crash s.fs keep hf.df (by have := hf.d; omega)
  by_cases hE : E = 0
  · subst hE
    exact ⟨0, ⟨false, d, s.id, 0, [], 0, trNew, []⟩, ⟨hd, by simp, by simp [trNew], by simp [trNew], by simp⟩, fun v W hv => scrash_ok s v d keep W hv G1, fun v W hv => rcrashS_ok s v d keep W hv G2⟩
  · exact ⟨E, sv0, ⟨by decide, by decide, by decide, by decide, by decide⟩, fun v W hv => scrash_err s v d keep E W hv hE G1, fun v W hv => rcrashS_err s v d keep E W hv hE G2⟩

end Go.Proofs.YtaoflcmeiaffjaaGreatDoor

namespace Go.Proofs.YtaoflcmeiaffjaaGreatDoor
open Go.RowKit

theorem few_zero : Few sv0 := ⟨by decide, by decide, by decide, by decide, by decide⟩
/-- what an empty disk comes up as -/
noncomputable def svUp (id : Int) : Sv := ⟨true, [logF []], id, epochD [], [], 0, trNew, []⟩
theorem rec_empty : GivesW 27 (fun x => #[x]) [] [] [logF []] 0 :=
  wrec_gap_any [] [logF []] 0 (fun v W hv => by
    have h := read_no v [] logN 7 W hv (good_slim good_none) (.inr ⟨good_none, ⟨[], [], gap_none _⟩, rfl⟩)
    exact h)
    (gives_own fun v W hv => write_new v [] [] [] logN [] W hv (good_slim good_none) good_none named_log (by decide) (gap_none _) (by decide))
theorem boot_none (id : Int) (h0 : 0 ≤ id) (h1 : id < 3) (w : World) : Calls Tryz.prog 7 #[.int .i64 id, .agg #[.slice none 0 0]] w (GivesV w (svUp id) 0) :=
  sboot_ok (.slice none 0 0) [] [logF []] [] id w (DiskV.nil w) (by intro f hf; simp at hf) h0 h1 rec_empty

set_option maxRecDepth 10000 in
set_option maxHeartbeats 1000000 in
theorem boots_any (w : World) : Calls Tryz.prog 16 #[] w fun e w' => e = .returned (.bool true) ∧ Below w.heap.size w w' := by
  have C := fun W => boot_none 1 (by omega) (by omega) W
  go_enter Tryz.func16, Tryz.ntmps16
  go_wp2_with fail
  refine (C _).mono ?_
  rintro e w1 ⟨v1, rfl, hv1, hb1⟩
  obtain ⟨ad, nd, cd, al, cl, an, cn, ai, ci, aw, cw, rfl, _, _, _, _, _⟩ := hv1.five
  simp only [show (svUp 1).up = true from rfl, show (svUp 1).id = 1 from rfl]
  generalize (svUp 1).ep = ep
  generalize (svUp 1).ts.length = nl
  generalize (svUp 1).dn = dn
  generalize (svUp 1).tr.z = tz
  generalize (svUp 1).tr.ns.length = nn
  generalize (svUp 1).tr.ss.length = ni
  generalize (svUp 1).ws.length = nw
  have hB := hide (nnext hb1 (allocB _ (.cells #[.bool true, .slice ad nd cd, .int .i64 1, .int .i64 ep, .slice al nl cl, .int .i64 dn, .int .i64 tz, .slice an nn cn, .slice ai ni ci, .slice aw nw cw] 34)))
  clear hv1 C hb1
  go_wp2_with fail
  go_ret
  exact ⟨rfl, unhide hB⟩

end Go.Proofs.YtaoflcmeiaffjaaGreatDoor
