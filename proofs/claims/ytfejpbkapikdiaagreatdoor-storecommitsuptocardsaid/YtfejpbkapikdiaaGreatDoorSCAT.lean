/-
  What aviaryref.SamePeer and SameServer answer of alike ones: the walks.
  That store.Commit and aviaryref.Commit answer alike.
  That an empty disk comes up; aviarylaw.boots and aviarykeep.boots return true: the walks.
-/
import Derived.Test.YtfejpbkapikdiaaGreatDoorSCJ
import Derived.Test.YtfejpbkapikdiaaGreatDoorSCAS
import Derived.Test.YtfejpbkapikdiaaGreatDoorSCAP
import Derived.Test.YtfejpbkapikdiaaGreatDoorSCS
import Derived.Test.YtfejpbkapikdiaaGreatDoorSCAR
import Derived.Test.YtfejpbkapikdiaaGreatDoorSCAK
namespace Go.Proofs.YtfejpbkapikdiaaGreatDoor
open Go.RowKit
set_option maxRecDepth 10000 in

set_option maxHeartbeats 1000000 in
theorem rsameP_any (id ep dn : Int) (ts : List WTxn) (v1 v2 : Value) (w : World) (hl : ts.length ≤ 1000000) (h1 : LogV w v1 ts) (h2 : LogV w v2 ts) :
    Calls Tryz.prog 21 #[.agg #[.int .i64 id, .int .i64 ep, v1, .int .i64 dn], .agg #[.int .i64 id, .int .i64 ep, v2, .int .i64 dn]] w fun e w' => e = .returned (.bool true) ∧ Below w.heap.size w w' := by
  have CL := fun W (hW : Below w.heap.size w W) => rsl_any v1 v2 ts W hl (h1.next hW) (h2.next hW)
  obtain ⟨a1, c1, rfl⟩ := log_slice h1
  obtain ⟨a2, c2, rfl⟩ := log_slice h2
  clear h1 h2 hl
  go_enter Tryz.func21, Tryz.ntmps21
  go_wp2_with fail
  refine (CL _ (nnext (allocB _ _) (allocB _ _))).mono ?_
  rintro e w1 ⟨rfl, hb1⟩
  have hB1 := nbox_then (nbox_then hb1)
  clear hb1 CL
  go_wp2_with fail
  go_ret
  exact ⟨rfl, hB1⟩

/-- nothing of it is longer than these comparisons bear -/
structure Few (s : Sv) : Prop where
  d : s.fs.length ≤ 1000000
  l : s.ts.length ≤ 1000000
  n : s.tr.ns.length ≤ 140737488355328
  si : s.tr.ss.length ≤ 140737488355328
  wa : s.ws.length ≤ 140737488355328

set_option maxRecDepth 10000 in
set_option maxHeartbeats 2000000 in
theorem rsameS_any (s : Sv) (v1 v2 : Value) (w : World) (hf : Few s) (h1 : SvV w v1 s) (h2 : SvV w v2 s) :
    Calls Tryz.prog 7 #[v1, v2] w fun e w' => e = .returned (.bool true) ∧ Below w.heap.size w w' := by
  obtain ⟨ad, nd, cd, al, cl, an, cn, ai, ci, aw, cw, rfl, d1, l1, n1, s1, k1⟩ := h1.five
  obtain ⟨bd, md, ed, bl, el, bn, en, bi, ei, bw, ew, rfl, d2, l2, n2, s2, k2⟩ := h2.five
  have CD := fun W (hW : Below w.heap.size w W) => rsame_any _ _ s.fs W hf.d (d1.next hW) (d2.next hW)
  have CP := fun W (hW : Below w.heap.size w W) => rsameP_any s.id s.ep s.dn s.ts _ _ W hf.l (l1.next hW) (l2.next hW)
  have CT := fun W (hW : Below w.heap.size w W) => rsameT_any s.tr _ _ _ _ W (n1.next hW) (s1.next hW) (n2.next hW) (s2.next hW) hf.n hf.si
  have CW := fun W (hW : Below w.heap.size w W) => rsameW_any _ _ s.ws W (k1.next hW) (k2.next hW) hf.wa
  have HD := hide CD
  have HP := hide CP
  have HT := hide CT
  have HW := hide CW
  clear CD CP CT CW h1 h2 d1 d2 l1 l2 n1 n2 s1 s2 k1 k2 hf
  obtain ⟨up, fs, id, ep, ts, dn, ⟨tz, tns, tss⟩, ws⟩ := s
  simp only at *
  go_enter Tryz.func7, Tryz.ntmps7
  go_wp2_with fail
  have X0 := Box10.new w up id ep dn tz (.slice ad nd cd) (.slice al ts.length cl) (.slice an tns.length cn) (.slice ai tss.length ci) (.slice aw ws.length cw)
  have X1 := X0.next (allocB _ (.cells #[.bool up, .slice bd md ed, .int .i64 id, .int .i64 ep, .slice bl ts.length el, .int .i64 dn, .int .i64 tz, .slice bn tns.length en, .slice bi tss.length ei, .slice bw ws.length ew] 34))
  have Y1 := Box10.new (w.alloc (.cells #[.bool up, .slice ad nd cd, .int .i64 id, .int .i64 ep, .slice al ts.length cl, .int .i64 dn, .int .i64 tz, .slice an tns.length cn, .slice ai tss.length ci, .slice aw ws.length cw] 34)) up id ep dn tz (.slice bd md ed) (.slice bl ts.length el) (.slice bn tns.length en) (.slice bi tss.length ei) (.slice bw ws.length ew)
  rw [show (w.alloc (.cells #[.bool up, .slice ad nd cd, .int .i64 id, .int .i64 ep, .slice al ts.length cl, .int .i64 dn, .int .i64 tz, .slice an tns.length cn, .slice ai tss.length ci, .slice aw ws.length cw] 34)).heap.size = w.heap.size + 1 by simp] at Y1
  have hB0 : Below w.heap.size w ((w.alloc (.cells #[.bool up, .slice ad nd cd, .int .i64 id, .int .i64 ep, .slice al ts.length cl, .int .i64 dn, .int .i64 tz, .slice an tns.length cn, .slice ai tss.length ci, .slice aw ws.length cw] 34)).alloc (.cells #[.bool up, .slice bd md ed, .int .i64 id, .int .i64 ep, .slice bl ts.length el, .int .i64 dn, .int .i64 tz, .slice bn tns.length en, .slice bi tss.length ei, .slice bw ws.length ew] 34)) := nnext (allocB _ _) (allocB _ _)
  generalize (w.alloc (.cells #[.bool up, .slice ad nd cd, .int .i64 id, .int .i64 ep, .slice al ts.length cl, .int .i64 dn, .int .i64 tz, .slice an tns.length cn, .slice ai tss.length ci, .slice aw ws.length cw] 34)).alloc (.cells #[.bool up, .slice bd md ed, .int .i64 id, .int .i64 ep, .slice bl ts.length el, .int .i64 dn, .int .i64 tz, .slice bn tns.length en, .slice bi tss.length ei, .slice bw ws.length ew] 34) = W0 at *
  have HX0 := hide X1
  have HY0 := hide Y1
  have HB0 := hide hB0
  clear X0 X1 Y1 hB0
  refine (unhide HD _ (unhide HB0)).mono ?_
  rintro e w1 ⟨rfl, hb1⟩
  have HX1 := hide ((unhide HX0).next hb1)
  have HY1 := hide ((unhide HY0).next hb1)
  have HB1 := hide (nnext (unhide HB0) hb1)
  obtain ⟨x0, x1, x2, x3, x4, x5, x6, x7, x8, x9⟩ := (unhide HX1).cells
  obtain ⟨y0, y1, y2, y3, y4, y5, y6, y7, y8, y9⟩ := (unhide HY1).cells
  clear hb1 HX0 HY0 HB0 HD
  go_wp2_with fail
  clear x0 x1 x2 x3 x4 x5 x6 x7 x8 x9 y0 y1 y2 y3 y4 y5 y6 y7 y8 y9
  refine (unhide HP _ (unhide HB1)).mono ?_
  rintro e w2 ⟨rfl, hb2⟩
  have HX2 := hide ((unhide HX1).next hb2)
  have HY2 := hide ((unhide HY1).next hb2)
  have HB2 := hide (nnext (unhide HB1) hb2)
  obtain ⟨x0, x1, x2, x3, x4, x5, x6, x7, x8, x9⟩ := (unhide HX2).cells
  obtain ⟨y0, y1, y2, y3, y4, y5, y6, y7, y8, y9⟩ := (unhide HY2).cells
  clear hb2 HX1 HY1 HB1 HP
  go_wp2_with fail
  clear x0 x1 x2 x3 x4 x5 x6 x7 x8 x9 y0 y1 y2 y3 y4 y5 y6 y7 y8 y9
  refine (unhide HT _ (unhide HB2)).mono ?_
  rintro e w3 ⟨rfl, hb3⟩
  have HX3 := hide ((unhide HX2).next hb3)
  have HY3 := hide ((unhide HY2).next hb3)
  have HB3 := hide (nnext (unhide HB2) hb3)
  obtain ⟨x0, x1, x2, x3, x4, x5, x6, x7, x8, x9⟩ := (unhide HX3).cells
  obtain ⟨y0, y1, y2, y3, y4, y5, y6, y7, y8, y9⟩ := (unhide HY3).cells
  clear hb3 HX2 HY2 HB2 HT
  go_wp2_with fail
  clear x0 x1 x2 x3 x4 x5 x6 x7 x8 x9 y0 y1 y2 y3 y4 y5 y6 y7 y8 y9
  refine (unhide HW _ (unhide HB3)).mono ?_
  rintro e w4 ⟨rfl, hb4⟩
  have HX4 := hide ((unhide HX3).next hb4)
  have HY4 := hide ((unhide HY3).next hb4)
  have HB4 := hide (nnext (unhide HB3) hb4)
  obtain ⟨x0, x1, x2, x3, x4, x5, x6, x7, x8, x9⟩ := (unhide HX4).cells
  obtain ⟨y0, y1, y2, y3, y4, y5, y6, y7, y8, y9⟩ := (unhide HY4).cells
  clear hb4 HX3 HY3 HB3 HW
  go_wp2_with fail
  clear x0 x1 x2 x3 x4 x5 x6 x7 x8 x9 y0 y1 y2 y3 y4 y5 y6 y7 y8 y9
  go_ret
  exact ⟨rfl, unhide HB4⟩

end Go.Proofs.YtfejpbkapikdiaaGreatDoor

namespace Go.Proofs.YtfejpbkapikdiaaGreatDoor
open Go.RowKit

theorem csP_few {s : Sv} {xs : List WTxn} {k : Nat} (hw : Few s) (h : Chn s xs k) : (csP s xs k).1.tr.ns.length ≤ 140737488355328 ∧ (csP s xs k).1.tr.ss.length ≤ 140737488355328 := by
  cases k with
  | zero => rw [csP_zero]; exact ⟨hw.n, hw.si⟩
  | succ i =>
    obtain ⟨y, hy⟩ : ∃ y, xs[i]? = some y := ⟨_, List.getElem?_eq_getElem (by have := h.le; omega)⟩
    rw [csP_succ hy]
    have := app_short (csP s xs i).1.tr y
    exact ⟨this.1, this.2.1⟩
theorem both_commit (s : Sv) (n : Int) (hf : Fits s) (hw : Few s) (hA : ∀ xs, (∀ x ∈ xs, x ∈ s.ts) → CArg s xs) : ∃ E s' N', Few s' ∧ N'.length ≤ 140737488355328 ∧
    (∀ v W, SvV W v s → Calls Tryz.prog 4 #[v, .int .i64 n] W (GivesCm W s' N' E)) ∧ (∀ v W, SvV W v s → Calls Tryz.prog 6 #[v, .int .i64 n] W (GivesCm W s' N' E)) := by
  have few0 : Few sv0 := ⟨by decide, by decide, by decide, by decide, by decide⟩
  by_cases hr : s.dn < 0 ∨ n < s.dn ∨ (s.ts.length : Int) < n
  · exact ⟨3, sv0, [], few0, by simp, fun v W hv => scommit_no s v n W hv hr, fun v W hv => rcommit_no s v n W hv hr⟩
  · have hd0 : 0 ≤ s.dn := by omega
    have hn0 : 0 ≤ n := by omega
    obtain ⟨dN, hdN⟩ := Int.eq_ofNat_of_zero_le hd0
    obtain ⟨nN, rfl⟩ := Int.eq_ofNat_of_zero_le hn0
    have h1 : dN ≤ nN := by omega
    have h2 : nN ≤ s.ts.length := by omega
    obtain ⟨xs, hxs⟩ : ∃ xs, xs = (s.ts.drop dN).take (nN - dN) := ⟨_, rfl⟩
    obtain ⟨k, hC⟩ := chn_ex s xs
    have hA' := hA xs (fun x hx => by rw [hxs] at hx; exact List.mem_of_mem_drop (List.mem_of_mem_take hx))
    by_cases hk : k = xs.length
    · obtain ⟨⟨_, _, a3⟩, _, b2, _, _, b5, _⟩ := chn_at hA'.base hC k (Nat.le_refl _)
      have c := csP_few hw hC
      have hwa := hw.wa
      refine ⟨0, ⟨(csP s xs k).1.up, (csP s xs k).1.fs, (csP s xs k).1.id, (csP s xs k).1.ep, (csP s xs k).1.ts, nN, (csP s xs k).1.tr, (csP s xs k).1.ws⟩, (csP s xs k).2, ⟨by simp only; rw [b2]; exact hw.d, by simp only; rw [b5]; exact hw.l, c.1, c.2, by simp only; omega⟩, by omega, fun v W hv => (scommit_run s v dN nN k xs W hv hf hdN h1 h2 hxs hC hA'.base).mono fun _ _ h => h.1 hk, fun v W hv => (rcommit_run s v dN nN k xs W hv hf hdN h1 h2 hxs hC hA').mono fun _ _ h => h.1 hk⟩
    · obtain ⟨x, hx⟩ : ∃ x, xs[k]? = some x := ⟨_, List.getElem?_eq_getElem (by have := hC.le; omega)⟩
      exact ⟨appE (csP s xs k).1.tr x, sv0, [], few0, by simp, fun v W hv => (scommit_run s v dN nN k xs W hv hf hdN h1 h2 hxs hC hA'.base).mono fun _ _ h => h.2 x hx, fun v W hv => (rcommit_run s v dN nN k xs W hv hf hdN h1 h2 hxs hC hA').mono fun _ _ h => h.2 x hx⟩
end Go.Proofs.YtfejpbkapikdiaaGreatDoor

namespace Go.Proofs.YtfejpbkapikdiaaGreatDoor
open Go.RowKit
/-- what an empty disk comes up as -/
noncomputable def svUp (id : Int) : Sv := ⟨true, [logF []], id, epochD [], [], 0, trNew, []⟩
theorem rec_empty : GivesW 52 (fun x => #[x]) [] [] [logF []] 0 :=
  wrec_gap_any [] [logF []] 0 (fun v W hv => by
    have h := read_no v [] logN 7 W hv (good_slim good_none) (.inr ⟨good_none, ⟨[], [], gap_none _⟩, rfl⟩)
    exact h)
    (gives_own fun v W hv => write_new v [] [] [] logN [] W hv (good_slim good_none) good_none named_log (by decide) (gap_none _) (by decide))
theorem boot_none (id : Int) (h0 : 0 ≤ id) (h1 : id < 3) (w : World) : Calls Tryz.prog 24 #[.int .i64 id, .agg #[.slice none 0 0]] w (GivesV w (svUp id) 0) :=
  sboot_ok (.slice none 0 0) [] [logF []] [] id w (DiskV.nil w) (by intro f hf; simp at hf) h0 h1 rec_empty

set_option maxRecDepth 10000 in
set_option maxHeartbeats 1000000 in
theorem boots_any (w : World) : Calls Tryz.prog 9 #[] w fun e w' => e = .returned (.bool true) ∧ Below w.heap.size w w' := by
  have C := fun W => boot_none 1 (by omega) (by omega) W
  go_enter Tryz.func9, Tryz.ntmps9
  go_wp2_with fail
  refine (C _).mono ?_
  rintro e w1 ⟨v1, rfl, hv1, hb1⟩
  obtain ⟨ad, nd, cd, al, cl, an, cn, ai, ci, aw, cw, rfl, _, _, _, _, _⟩ := hv1.five
  simp only [show (svUp 1).up = true from rfl, show (svUp 1).id = 1 from rfl]
  generalize (svUp 1).ep = ep
  generalize (svUp 1).ts.length = nl
  generalize (svUp 1).dn = dn
  generalize (svUp 1).tr.z = tz
  generalize (svUp 1).tr.ns.length = nn
  generalize (svUp 1).tr.ss.length = ni
  generalize (svUp 1).ws.length = nw
  have hB := hide (nnext hb1 (allocB _ (.cells #[.bool true, .slice ad nd cd, .int .i64 1, .int .i64 ep, .slice al nl cl, .int .i64 dn, .int .i64 tz, .slice an nn cn, .slice ai ni ci, .slice aw nw cw] 34)))
  clear hv1 C hb1
  go_wp2_with fail
  go_ret
  exact ⟨rfl, unhide hB⟩

end Go.Proofs.YtfejpbkapikdiaaGreatDoor
