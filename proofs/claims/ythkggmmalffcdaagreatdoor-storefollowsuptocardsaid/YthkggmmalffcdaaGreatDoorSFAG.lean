/-
  What aviaryref's Fire, SameNotes, SameWatches (of alike ones) and aviarylaw's watches answer; the law WatchFires: the walks.
  What aviarylaw's watches and aviaryref's SameWatches, SameNotes (of alike ones) answer: the walks.
  What aviaryref.SamePeer and SameServer answer of alike ones: the walks.
  That store and aviaryref take and crash alike.
  What aviaryref.Recover answers: the walks.
  What wire.Decode answers, for every text: the walk.
  What wire.Decode answers of a text that has a record's form: the walk.
  What wal.Recover answers of every disk; what wal.upTo answers.
-/
import Derived.Test.YthkggmmalffcdaaGreatDoorSFAF
import Derived.Laws.StructEq
import Derived.Deep.QuietTactic
import Derived.Test.YthkggmmalffcdaaGreatDoorSFG
import Derived.Test.YthkggmmalffcdaaGreatDoorSFR
import Derived.Test.YthkggmmalffcdaaGreatDoorSFT
import Derived.Test.YthkggmmalffcdaaGreatDoorSFZ
import Derived.Test.YthkggmmalffcdaaGreatDoorSFAA
import Derived.Test.YthkggmmalffcdaaGreatDoorSFI
import Derived.Test.YthkggmmalffcdaaGreatDoorSFS
import Derived.Test.YthkggmmalffcdaaGreatDoorSFH
namespace Go.Proofs.YthkggmmalffcdaaGreatDoor
open Go.RowKit

theorem RowAt.grown {W V : World} {b off : Nat} {cs : List Value} {r : Option Nat} (h : RowAt W b off cs) (hg : W.grownBy V r) (hr : some b ≠ r) : RowAt V b off cs := fun j v hj => hg.cell (h j v hj) hr
theorem SeqV.grown {α : Type} [Lay α] {W V : World} {v : Value} {xs : List α} {r : Option Nat} (h : SeqV W v xs) (hg : W.grownBy V r) (hr : ∀ k, v.ownBlock = some k → some k ≠ r) : SeqV V v xs := by
  rcases h with h | ⟨b, off, cap, rfl, h1, h2, h3, h0, h4⟩
  · exact .inl h
  · exact .inr ⟨b, off, cap, rfl, h1, h2, Nat.lt_of_lt_of_le h3 hg.size, h0, h4.grown hg (hr b rfl)⟩
/-- the document's Fire within one event -/
structure FI (w wq : World) (m be : Nat) (e : Ev) (lv : Value) (L : List Wa) (nv : Value) (N : List Nt) (fv : Value) (F : List Wa) : Prop where
  n : OwnS wq w.heap.size nv N
  f : OwnS wq m fv F
  nf : ∀ k, nv.ownBlock = some k → fv.ownBlock ≠ some k ∧ k ≠ be
  bm : be < m
  rd : ∀ (i : Nat) (x : Wa), L[i]? = some x → ∃ b off cap, lv = .slice (some ⟨b, off, none⟩) L.length cap ∧ b < m ∧ nv.ownBlock ≠ some b ∧ RowAt wq b off (cellsL L)
  e : OneR wq be e
  b : Below w.heap.size w wq
  wm : w.heap.size ≤ m
  mz : m ≤ wq.heap.size
theorem FI.next {w wq V : World} {m be : Nat} {e : Ev} {lv : Value} {L : List Wa} {nv : Value} {N : List Nt} {fv : Value} {F : List Wa} (h : FI w wq m be e lv L nv N fv F) (hb : Below wq.heap.size wq V) : FI w V m be e lv L nv N fv F :=
  ⟨h.n.next hb, h.f.next hb, h.nf, h.bm, fun i x hx => by
    obtain ⟨b, off, cap, e1, h1, h2, h3⟩ := h.rd i x hx
    exact ⟨b, off, cap, e1, h1, h2, h3.kept hb (Nat.lt_of_lt_of_le h1 h.mz)⟩, (hb.block _ (Nat.lt_of_lt_of_le h.bm h.mz)).trans h.e, nnext h.b hb, h.wm, Nat.le_trans h.mz hb.size⟩
theorem FI.left {w wq V : World} {m be : Nat} {e : Ev} {lv : Value} {L : List Wa} {nv : Value} {N : List Nt} {fv fv' : Value} {F F' : List Wa} (h : FI w wq m be e lv L nv N fv F) (hg : wq.grownBy V fv.ownBlock) (ho : OwnS V 0 fv' F') (hl : fv'.ownBlock = fv.ownBlock ∨ fv'.ownBlock = some wq.heap.size) : FI w V m be e lv L nv N fv' F' := by
  have hmz := h.mz
  have hbm := h.bm
  have hab := ownS_above h.f
  refine ⟨h.n.grown hg (fun k hk e => (h.nf k hk).1 e.symm), ownS_base ho (fun k hk => ?_), fun k hk => ⟨?_, (h.nf k hk).2⟩, h.bm, fun i x hx => ?_, (hg.block _ (by omega) (fun e => by have := hab _ e.symm; omega)).trans h.e, h.b.grown hg h.b.size (fun k hk => Nat.le_trans h.wm (hab k hk)), h.wm, Nat.le_trans h.mz hg.size⟩
  · rcases hl with e | e
    · rw [e] at hk; exact hab k hk
    · rw [e] at hk; cases hk; exact h.mz
  · rcases hl with e | e
    · rw [e]; exact (h.nf k hk).1
    · rw [e]; intro e'; cases e'
      have := h.n.low _ hk
      omega
  · obtain ⟨b, off, cap, e1, h1, h2, h3⟩ := h.rd i x hx
    exact ⟨b, off, cap, e1, h1, h2, h3.grown hg (fun e => by have := hab _ e.symm; omega)⟩
end Go.Proofs.YthkggmmalffcdaaGreatDoor

namespace Go.Proofs.YthkggmmalffcdaaGreatDoor
open Go.RowKit
set_option maxRecDepth 20000 in
set_option maxHeartbeats 2000000 in
theorem rsameW_any (va vb : Value) (ws : List Wa) (w : World) (ha : SeqV w va ws) (hb : SeqV w vb ws) (hl : ws.length ≤ 140737488355328) :
    Calls Tryz.prog 26 #[va, vb] w fun e w' => e = .returned (.bool true) ∧ Below w.heap.size w w' := by
  have K : ∀ (v : Value), SeqV w v ws → ∀ W, Below w.heap.size w W → ∀ (i : Nat) (x : Wa), ws[i]? = some x → ∃ b off c, v = .slice (some ⟨b, off, none⟩) ws.length c ∧ b < w.heap.size ∧ RowAt W b off (cellsL ws) := by
    intro v hv W hW i x hx
    obtain ⟨b, off, c, e, hb, hr, _, _⟩ := seq_row hv (by intro h0; rw [h0] at hx; simp at hx)
    exact ⟨b, off, c, e, hb, hr.kept hW hb⟩
  have K1 := hide (K va ha)
  have K2 := hide (K vb hb)
  obtain ⟨aa, ac, rfl⟩ := seq_slice ha
  obtain ⟨ba, bc, rfl⟩ := seq_slice hb
  clear ha hb K
  go_enter Tryz.func26, Tryz.ntmps26
  go_wp2_with fail
  go_loopg [13] ws.length (fun kx s13 wr => ∃ k : Nat, s13 = .int .i64 k ∧ k ≤ ws.length ∧ ws.length - k ≤ kx ∧ Hid (Below w.heap.size w wr))
  case atStart => exact ⟨0, rfl, Nat.zero_le _, Nat.le_refl _, hide (Below.refl _ _)⟩
  case round =>
    obtain ⟨k, rfl, hk, hg, hB⟩ := hrel
    by_cases hlt : k < ws.length
    · obtain ⟨x, hx⟩ : ∃ x, ws[k]? = some x := ⟨_, List.getElem?_eq_getElem hlt⟩
      obtain ⟨b1, o1, cc1, he, hb1, q1⟩ := unhide K1 wr (unhide hB) k x hx
      simp only [Value.slice.injEq] at he
      obtain ⟨rfl, _, rfl⟩ := he
      obtain ⟨b2, o2, cc2, he, hb2, q2⟩ := unhide K2 wr (unhide hB) k x hx
      simp only [Value.slice.injEq] at he
      obtain ⟨rfl, _, rfl⟩ := he
      have d0 := q1.w0 hx
      have d1 := q1.w1 hx
      have d2 := q1.w2 hx
      have r0 := q2.w0 hx
      have r1 := q2.w1 hx
      have r2 := q2.w2 hx
      have hlti : (k : Int) < (ws.length : Int) := by omega
      clear q1 q2 hx
      go_wp2_with fail
      go_region
      go_wp2_with fail
      go_roundg (ws.length - (k + 1))
      case measure => omega
      case rel => exact ⟨k + 1, rfl, by omega, Nat.le_refl _, hide (nnext (unhide hB) (Below.refl _ _).drew)⟩
    · obtain rfl : k = ws.length := by omega
      go_wp2_with fail
      go_ret
      exact ⟨rfl, unhide hB⟩

end Go.Proofs.YthkggmmalffcdaaGreatDoor

namespace Go.Proofs.YthkggmmalffcdaaGreatDoor
open Go.RowKit
set_option maxRecDepth 10000 in

set_option maxHeartbeats 1000000 in
theorem rsameP_any (id ep dn : Int) (ts : List WTxn) (v1 v2 : Value) (w : World) (hl : ts.length ≤ 1000000) (h1 : LogV w v1 ts) (h2 : LogV w v2 ts) :
    Calls Tryz.prog 24 #[.agg #[.int .i64 id, .int .i64 ep, v1, .int .i64 dn], .agg #[.int .i64 id, .int .i64 ep, v2, .int .i64 dn]] w fun e w' => e = .returned (.bool true) ∧ Below w.heap.size w w' := by
  have CL := fun W (hW : Below w.heap.size w W) => rsl_any v1 v2 ts W hl (h1.next hW) (h2.next hW)
  obtain ⟨a1, c1, rfl⟩ := log_slice h1
  obtain ⟨a2, c2, rfl⟩ := log_slice h2
  clear h1 h2 hl
  go_enter Tryz.func24, Tryz.ntmps24
  go_wp2_with fail
  refine (CL _ (nnext (allocB _ _) (allocB _ _))).mono ?_
  rintro e w1 ⟨rfl, hb1⟩
  have hB1 := nbox_then (nbox_then hb1)
  clear hb1 CL
  go_wp2_with fail
  go_ret
  exact ⟨rfl, hB1⟩

/-- nothing of it is longer than these comparisons bear -/
structure Few (s : Sv) : Prop where
  d : s.fs.length ≤ 1000000
  l : s.ts.length ≤ 1000000
  n : s.tr.ns.length ≤ 140737488355328
  si : s.tr.ss.length ≤ 140737488355328
  wa : s.ws.length ≤ 140737488355328

set_option maxRecDepth 10000 in
set_option maxHeartbeats 2000000 in
theorem rsameS_any (s : Sv) (v1 v2 : Value) (w : World) (hf : Few s) (h1 : SvV w v1 s) (h2 : SvV w v2 s) :
    Calls Tryz.prog 8 #[v1, v2] w fun e w' => e = .returned (.bool true) ∧ Below w.heap.size w w' := by
  obtain ⟨ad, nd, cd, al, cl, an, cn, ai, ci, aw, cw, rfl, d1, l1, n1, s1, k1⟩ := h1.five
  obtain ⟨bd, md, ed, bl, el, bn, en, bi, ei, bw, ew, rfl, d2, l2, n2, s2, k2⟩ := h2.five
  have CD := fun W (hW : Below w.heap.size w W) => rsame_any _ _ s.fs W hf.d (d1.next hW) (d2.next hW)
  have CP := fun W (hW : Below w.heap.size w W) => rsameP_any s.id s.ep s.dn s.ts _ _ W hf.l (l1.next hW) (l2.next hW)
  have CT := fun W (hW : Below w.heap.size w W) => rsameT_any s.tr _ _ _ _ W (n1.next hW) (s1.next hW) (n2.next hW) (s2.next hW) hf.n hf.si
  have CW := fun W (hW : Below w.heap.size w W) => rsameW_any _ _ s.ws W (k1.next hW) (k2.next hW) hf.wa
  have HD := hide CD
  have HP := hide CP
  have HT := hide CT
  have HW := hide CW
  clear CD CP CT CW h1 h2 d1 d2 l1 l2 n1 n2 s1 s2 k1 k2 hf
  obtain ⟨up, fs, id, ep, ts, dn, ⟨tz, tns, tss⟩, ws⟩ := s
  simp only at *
  go_enter Tryz.func8, Tryz.ntmps8
  go_wp2_with fail
  have X0 := Box10.new w up id ep dn tz (.slice ad nd cd) (.slice al ts.length cl) (.slice an tns.length cn) (.slice ai tss.length ci) (.slice aw ws.length cw)
  have X1 := X0.next (allocB _ (.cells #[.bool up, .slice bd md ed, .int .i64 id, .int .i64 ep, .slice bl ts.length el, .int .i64 dn, .int .i64 tz, .slice bn tns.length en, .slice bi tss.length ei, .slice bw ws.length ew] 34))
  have Y1 := Box10.new (w.alloc (.cells #[.bool up, .slice ad nd cd, .int .i64 id, .int .i64 ep, .slice al ts.length cl, .int .i64 dn, .int .i64 tz, .slice an tns.length cn, .slice ai tss.length ci, .slice aw ws.length cw] 34)) up id ep dn tz (.slice bd md ed) (.slice bl ts.length el) (.slice bn tns.length en) (.slice bi tss.length ei) (.slice bw ws.length ew)
  rw [show (w.alloc (.cells #[.bool up, .slice ad nd cd, .int .i64 id, .int .i64 ep, .slice al ts.length cl, .int .i64 dn, .int .i64 tz, .slice an tns.length cn, .slice ai tss.length ci, .slice aw ws.length cw] 34)).heap.size = w.heap.size + 1 by simp] at Y1
  have hB0 : Below w.heap.size w ((w.alloc (.cells #[.bool up, .slice ad nd cd, .int .i64 id, .int .i64 ep, .slice al ts.length cl, .int .i64 dn, .int .i64 tz, .slice an tns.length cn, .slice ai tss.length ci, .slice aw ws.length cw] 34)).alloc (.cells #[.bool up, .slice bd md ed, .int .i64 id, .int .i64 ep, .slice bl ts.length el, .int .i64 dn, .int .i64 tz, .slice bn tns.length en, .slice bi tss.length ei, .slice bw ws.length ew] 34)) := nnext (allocB _ _) (allocB _ _)
  generalize (w.alloc (.cells #[.bool up, .slice ad nd cd, .int .i64 id, .int .i64 ep, .slice al ts.length cl, .int .i64 dn, .int .i64 tz, .slice an tns.length cn, .slice ai tss.length ci, .slice aw ws.length cw] 34)).alloc (.cells #[.bool up, .slice bd md ed, .int .i64 id, .int .i64 ep, .slice bl ts.length el, .int .i64 dn, .int .i64 tz, .slice bn tns.length en, .slice bi tss.length ei, .slice bw ws.length ew] 34) = W0 at *
  have HX0 := hide X1
  have HY0 := hide Y1
  have HB0 := hide hB0
  clear X0 X1 Y1 hB0
  refine (unhide HD _ (unhide HB0)).mono ?_
  rintro e w1 ⟨rfl, hb1⟩
  have HX1 := hide ((unhide HX0).next hb1)
  have HY1 := hide ((unhide HY0).next hb1)
  have HB1 := hide (nnext (unhide HB0) hb1)
  obtain ⟨x0, x1, x2, x3, x4, x5, x6, x7, x8, x9⟩ := (unhide HX1).cells
  obtain ⟨y0, y1, y2, y3, y4, y5, y6, y7, y8, y9⟩ := (unhide HY1).cells
  clear hb1 HX0 HY0 HB0 HD
  go_wp2_with fail
  clear x0 x1 x2 x3 x4 x5 x6 x7 x8 x9 y0 y1 y2 y3 y4 y5 y6 y7 y8 y9
  refine (unhide HP _ (unhide HB1)).mono ?_
  rintro e w2 ⟨rfl, hb2⟩
  have HX2 := hide ((unhide HX1).next hb2)
  have HY2 := hide ((unhide HY1).next hb2)
  have HB2 := hide (nnext (unhide HB1) hb2)
  obtain ⟨x0, x1, x2, x3, x4, x5, x6, x7, x8, x9⟩ := (unhide HX2).cells
  obtain ⟨y0, y1, y2, y3, y4, y5, y6, y7, y8, y9⟩ := (unhide HY2).cells
  clear hb2 HX1 HY1 HB1 HP
  go_wp2_with fail
  clear x0 x1 x2 x3 x4 x5 x6 x7 x8 x9 y0 y1 y2 y3 y4 y5 y6 y7 y8 y9
  refine (unhide HT _ (unhide HB2)).mono ?_
  rintro e w3 ⟨rfl, hb3⟩
  have HX3 := hide ((unhide HX2).next hb3)
  have HY3 := hide ((unhide HY2).next hb3)
  have HB3 := hide (nnext (unhide HB2) hb3)
  obtain ⟨x0, x1, x2, x3, x4, x5, x6, x7, x8, x9⟩ := (unhide HX3).cells
  obtain ⟨y0, y1, y2, y3, y4, y5, y6, y7, y8, y9⟩ := (unhide HY3).cells
  clear hb3 HX2 HY2 HB2 HT
  go_wp2_with fail
  clear x0 x1 x2 x3 x4 x5 x6 x7 x8 x9 y0 y1 y2 y3 y4 y5 y6 y7 y8 y9
  refine (unhide HW _ (unhide HB3)).mono ?_
  rintro e w4 ⟨rfl, hb4⟩
  have HX4 := hide ((unhide HX3).next hb4)
  have HY4 := hide ((unhide HY3).next hb4)
  have HB4 := hide (nnext (unhide HB3) hb4)
  obtain ⟨x0, x1, x2, x3, x4, x5, x6, x7, x8, x9⟩ := (unhide HX4).cells
  obtain ⟨y0, y1, y2, y3, y4, y5, y6, y7, y8, y9⟩ := (unhide HY4).cells
  clear hb4 HX3 HY3 HB3 HW
  go_wp2_with fail
  clear x0 x1 x2 x3 x4 x5 x6 x7 x8 x9 y0 y1 y2 y3 y4 y5 y6 y7 y8 y9
  go_ret
  exact ⟨rfl, unhide HB4⟩

end Go.Proofs.YthkggmmalffcdaaGreatDoor

namespace Go.Proofs.YthkggmmalffcdaaGreatDoor
open Go.RowKit

theorem both_write3 (fs : List DF) (name x : List UInt8) (hs : Slim fs) (hl : fs.length ≤ 140737488355328) (hnm : name.length ≤ 140737488355328) (hx : x.length ≤ 140737488355328) :
    ∃ E d, d.length ≤ 1000000 ∧ (E ≠ 0 → d = []) ∧ (E = 0 → GoodD d) ∧ GivesF 71 (fun y => #[y, .string ⟨name.toArray⟩, .string ⟨x.toArray⟩]) fs d E ∧ GivesD 81 (fun y => #[y, .string ⟨name.toArray⟩, .string ⟨x.toArray⟩]) fs d E := by
  rcases write_cases fs name x with ⟨E, h0, h⟩ | ⟨g, A, f, B, T, hfit⟩ | ⟨g, hn, hl16, ⟨A, B, G⟩, hfit⟩
  · refine ⟨E, [], by simp, fun _ => rfl, fun h => absurd h h0, givesF_no fun v W hv => write_no v fs name x E W hv hs hnm hx h, dgives_no fun v W hv => ?_⟩
    rcases h with h | h | ⟨g, hn, h16, ⟨A, B, G⟩, rfl⟩ | ⟨g, hn, ⟨A, f, B, T, hlong⟩, rfl⟩ | ⟨g, hn, hl16, ⟨A, B, G⟩, hlong, rfl⟩
    · exact rwrite_no1 v fs name x E W hv hs hl hnm (.inl h)
    · exact rwrite_no1 v fs name x E W hv hs hl hnm (.inr h)
    · refine (rwrite_new v fs A B name x W hv hs g hn G hx).mono fun e w' ⟨v', E', he, h1, _, _, hb⟩ => ?_
      obtain ⟨rfl, rfl⟩ := h1 (by omega)
      exact ⟨he, hb⟩
    · refine (rwrite_there v fs A B f name x W hv hs g T hx).mono fun e w' ⟨v', E', he, h1, _, hb⟩ => ?_
      obtain ⟨rfl, rfl⟩ := h1 hlong
      exact ⟨he, hb⟩
    · refine (rwrite_new v fs A B name x W hv hs g hn G hx).mono fun e w' ⟨v', E', he, _, h1, _, hb⟩ => ?_
      obtain ⟨rfl, rfl⟩ := h1 hl16 hlong
      exact ⟨he, hb⟩
  · have g' : GoodD (A ++ ⟨f.n, f.s, f.t ++ x⟩ :: B) := good_set (f := f) (by rw [← T.eq]; exact g) rfl (by simp; omega)
    refine ⟨0, A ++ ⟨f.n, f.s, f.t ++ x⟩ :: B, by have := g'.few; omega, fun h => absurd rfl h, fun _ => g', givesF_own fun v W hv => write_there v fs A B f name x W hv hs g T hfit, gives_disk fun v W hv => ?_⟩
    refine (rwrite_there v fs A B f name x W hv hs g T hx).mono fun e w' ⟨v', E', he, _, h1, hb⟩ => ?_
    obtain ⟨rfl, h2⟩ := h1 hfit
    exact ⟨v', he, h2, hb⟩
  · have g' : GoodD (A ++ ⟨name, [], x⟩ :: B) := good_ins g G hn hl16 rfl (by simpa using hfit)
    refine ⟨0, A ++ ⟨name, [], x⟩ :: B, by have := g'.few; omega, fun h => absurd rfl h, fun _ => g', givesF_own fun v W hv => write_new v fs A B name x W hv hs g hn hl16 G hfit, gives_disk fun v W hv => ?_⟩
    refine (rwrite_new v fs A B name x W hv hs g hn G hx).mono fun e w' ⟨v', E', he, _, _, h1, hb⟩ => ?_
    obtain ⟨rfl, h2⟩ := h1 hl16 hfit
    exact ⟨v', he, h2, hb⟩
theorem both_sync3 (fs : List DF) (name : List UInt8) (hs : Slim fs) (hl : fs.length ≤ 140737488355328) : ∃ E d, d.length ≤ 1000000 ∧ (E ≠ 0 → d = []) ∧ (E = 0 → GoodD d) ∧ GivesF 72 (fun x => #[x, .string ⟨name.toArray⟩]) fs d E ∧ GivesD 82 (fun x => #[x, .string ⟨name.toArray⟩]) fs d E := by
  rcases loc_cases fs name with ⟨E, h⟩ | ⟨g, A, f, B, T⟩
  · have h0 : E ≠ 0 := by rcases h with ⟨_, rfl⟩ | ⟨_, _, rfl⟩ <;> decide
    exact ⟨E, [], by simp, fun _ => rfl, fun h => absurd h h0, givesF_no fun v W hv => sync_no v fs name E W hv hs h, fun v W hv => rsync_walk v fs name [] E W hv fun W' hv' => turn_no (rturn_no v fs name _ _ E W' hv' hs hl h)⟩
  · have hfl := fileOk_len (T.ok g)
    have g' : GoodD (A ++ ⟨f.n, f.s ++ f.t, []⟩ :: B) := good_set (f := f) (by rw [← T.eq]; exact g) rfl (by simp; omega)
    refine ⟨0, A ++ ⟨f.n, f.s ++ f.t, []⟩ :: B, by have := g'.few; omega, fun h => absurd rfl h, fun _ => g', givesF_own fun v W hv => sync_there v fs A B f name W hv hs g T, fun v W hv => rsync_walk v fs name _ 0 W hv fun W' hv' => ?_⟩
    refine (rturn_there v fs A B f ⟨f.n, f.s ++ f.t, []⟩ name _ #[] 0 W' hv' hs g T enter_sync1 (fun V _ => rsync1_any f V hfl)).mono fun e w' ⟨v', he, _, hd, hb⟩ => ?_
    obtain ⟨a, n, c, rfl⟩ := disk_slice (hd rfl)
    exact ⟨a, n, c, he, hd rfl, hb⟩

theorem both_append3 (fs : List DF) (t : WTxn) (safe : Bool) (hs : Slim fs) (hl : fs.length ≤ 140737488355328) (hzb : t.z ≤ 9223372036854775807) (hp : t.p.length ≤ 1048576) (hd : t.d.length ≤ 140737488355328) :
    (∃ E, E ≠ 0 ∧ ∃ d, GivesD 74 (fun x => #[x, txnV t, .bool safe]) fs d E ∧ GivesD 84 (fun x => #[x, txnV t, .bool safe]) fs d E) ∨
    ∃ d, GoodD d ∧ GivesF 74 (fun x => #[x, txnV t, .bool safe]) fs d 0 ∧ GivesD 84 (fun x => #[x, txnV t, .bool safe]) fs d 0 := by
  by_cases hg : gdE t = 0
  · have hr := recL_le hg
    obtain ⟨E, d1, hd1, h0, h1, W1, W2⟩ := both_write3 fs logN (recL t) hs hl (by decide) (by omega)
    by_cases hE : E = 0
    · subst hE
      cases safe with
      | false => exact .inr ⟨d1, h1 rfl, wappF_soft fs d1 t hg W1, rapp_soft fs d1 t hg W2⟩
      | true =>
        obtain ⟨E2, d2, hd2, k0, k1, S1, S2⟩ := both_sync3 d1 logN (good_slim (h1 rfl)) (by omega)
        by_cases hE2 : E2 = 0
        · subst hE2
          exact .inr ⟨d2, k1 rfl, wappF_safe fs d1 d2 t 0 hg W1.d S1, rapp_safe fs d1 d2 t 0 hg W2 S2⟩
        · exact .inl ⟨E2, hE2, d2, (wappF_safe fs d1 d2 t E2 hg W1.d S1).d, rapp_safe fs d1 d2 t E2 hg W2 S2⟩
    · obtain rfl := h0 hE
      exact .inl ⟨E, hE, [], wapp_err fs [] t safe E hg W1.d hE, rapp_err fs [] t safe E hg W2 hE⟩
  · exact .inl ⟨gdE t, hg, [], wapp_no fs t safe hg hd, rapp_no fs t safe hg hzb hp hd⟩
end Go.Proofs.YthkggmmalffcdaaGreatDoor

namespace Go.Proofs.YthkggmmalffcdaaGreatDoor
open Go.RowKit

set_option maxRecDepth 10000 in
set_option maxHeartbeats 1000000 in
theorem rrec_bad (fs : List DF) (E : Int) (CR : GivesS 124 fs [] E) (h7 : E ≠ 7) (h0 : E ≠ 0) : GivesW 75 (fun x => #[x]) fs [] [] E := by
  intro v w hv
  have h7' : (E == 7) = false := by simpa using h7
  have h0' : (E != 0) = true := by simpa using h0
  clear h7 h0
  have HV := hide hv
  obtain ⟨a, n, c, rfl⟩ := disk_slice hv
  clear hv
  go_enter Tryz.func75, Tryz.ntmps75
  go_wp2_with fail
  have X := hide (RBox.start w (.slice a n c))
  generalize (w.alloc (.cells #[.slice a n c] 24)).alloc (.cells #[.slice none 0 0] 24) = W0 at *
  refine (CR _ _ ((unhide HV).next (unhide X).below)).mono ?_
  rintro e w1 ⟨rfl, hb1⟩
  have X1 := (unhide X).next hb1
  have cr := X1.r.c
  have fr := X1.r.f
  have HB := hide (X1.below.setCell (p := ⟨w.heap.size + 1, 0, none⟩) (by show w.heap.size ≤ w.heap.size + 1; omega) (.slice none 0 0))
  clear hb1 X X1 CR HV
  go_wp2_with fail
  exact bodyPost_ret (v := .tuple #[.slice none 0 0, .agg #[.slice none 0 0], .int .i64 E]) (by simp [results, Tryz.results75, go_sem, cr]) rfl ⟨_, _, _, _, _, _, rfl, hide (LogV.nil _), hide (DiskV.nil _), unhide HB⟩

set_option maxRecDepth 10000 in
set_option maxHeartbeats 1000000 in
theorem rrec_gap_no (fs d1 : List DF) (E : Int) (CR : GivesS 124 fs [] 7) (GW : GivesD 81 (fun x => #[x, .string ⟨logN.toArray⟩, .string ⟨(([] : List UInt8)).toArray⟩]) fs d1 E) (hE : E ≠ 0) : GivesW 75 (fun x => #[x]) fs [] [] E := by
  intro v w hv
  have hne : (E != 0) = true := by simpa using hE
  clear hE
  simp only [show logN.toArray = #[108, 111, 103] from rfl] at GW
  have HV := hide hv
  obtain ⟨a, n, c, rfl⟩ := disk_slice hv
  clear hv
  go_enter Tryz.func75, Tryz.ntmps75
  go_wp2_with fail
  have X := hide (RBox.start w (.slice a n c))
  generalize (w.alloc (.cells #[.slice a n c] 24)).alloc (.cells #[.slice none 0 0] 24) = W0 at *
  refine (CR _ _ ((unhide HV).next (unhide X).below)).mono ?_
  rintro e w1 ⟨rfl, hb1⟩
  have X1 := (unhide X).next hb1
  have cd := X1.d.c
  have HX1 := hide X1
  clear hb1 X X1 CR
  go_wp2_with fail
  refine (GW _ _ ((unhide HV).next (unhide HX1).below)).mono ?_
  rintro e w2 ⟨a2, n2, c2, rfl, HD2, hb2⟩
  have X1b := (unhide HX1).next hb2
  have cd2 := X1b.d.c
  have fd2 := X1b.d.f
  have X2 := X1b.setd (.slice a2 n2 c2)
  have cr := X2.r.c
  have fr := X2.r.f
  have ce := X2.d.c
  have HF := hide (And.intro (X2.below.setCell (p := ⟨w.heap.size + 1, 0, none⟩) (by show w.heap.size ≤ w.heap.size + 1; omega) (.slice none 0 0)) (disk_box (disk_box (unhide HD2) X1b.d (.slice a2 n2 c2)) X2.r (.slice none 0 0)))
  clear hb2 X2 X1b HX1 HD2 GW cd HV
  go_wp2_with fail
  exact bodyPost_ret (v := .tuple #[.slice none 0 0, .agg #[.slice none 0 0], .int .i64 E]) (by simp [results, Tryz.results75, go_sem, cr]) rfl ⟨_, _, _, _, _, _, rfl, hide (LogV.nil _), hide (DiskV.nil _), (unhide HF).1⟩

set_option maxRecDepth 10000 in
set_option maxHeartbeats 1000000 in
theorem rrec_gap_yes (fs d1 : List DF) (CR : GivesS 124 fs [] 7) (GW : GivesD 81 (fun x => #[x, .string ⟨logN.toArray⟩, .string ⟨(([] : List UInt8)).toArray⟩]) fs d1 0) : GivesW 75 (fun x => #[x]) fs [] d1 0 := by
  intro v w hv
  simp only [show logN.toArray = #[108, 111, 103] from rfl] at GW
  have HV := hide hv
  obtain ⟨a, n, c, rfl⟩ := disk_slice hv
  clear hv
  go_enter Tryz.func75, Tryz.ntmps75
  go_wp2_with fail
  have X := hide (RBox.start w (.slice a n c))
  generalize (w.alloc (.cells #[.slice a n c] 24)).alloc (.cells #[.slice none 0 0] 24) = W0 at *
  refine (CR _ _ ((unhide HV).next (unhide X).below)).mono ?_
  rintro e w1 ⟨rfl, hb1⟩
  have X1 := (unhide X).next hb1
  have cd := X1.d.c
  have HX1 := hide X1
  clear hb1 X X1 CR
  go_wp2_with fail
  refine (GW _ _ ((unhide HV).next (unhide HX1).below)).mono ?_
  rintro e w2 ⟨a2, n2, c2, rfl, HD2, hb2⟩
  have X1b := (unhide HX1).next hb2
  have cd2 := X1b.d.c
  have fd2 := X1b.d.f
  have X2 := X1b.setd (.slice a2 n2 c2)
  have cr := X2.r.c
  have fr := X2.r.f
  have ce := X2.d.c
  have HF := hide (And.intro (X2.below.setCell (p := ⟨w.heap.size + 1, 0, none⟩) (by show w.heap.size ≤ w.heap.size + 1; omega) (.slice a2 n2 c2)) (disk_box (disk_box (unhide HD2) X1b.d (.slice a2 n2 c2)) X2.r (.slice a2 n2 c2)))
  clear hb2 X2 X1b HX1 HD2 GW cd HV
  go_wp2_with fail
  generalize w2.setCell ⟨w.heap.size, 0, none⟩ (.slice a2 n2 c2) = W2 at *
  clear cd2 fd2
  go_region
  go_wp2_with fail
  exact bodyPost_ret (v := .tuple #[.slice none 0 0, .agg #[.slice a2 n2 c2], .int .i64 0]) (by simp [results, Tryz.results75, go_sem, cr]) rfl ⟨_, _, _, _, _, _, rfl, hide (LogV.nil _), hide (unhide HF).2.drew, (unhide HF).1.drew⟩

set_option maxRecDepth 10000 in
set_option maxHeartbeats 1000000 in
theorem rrec_there (fs d1 : List DF) (s : List UInt8) (ts : List WTxn) (N : Nat) (CR : GivesS 124 fs s 0) (CS : GivesL 125 s ts N) (GC : GivesD 126 (fun x => #[x, .string ⟨logN.toArray⟩, .int .i64 N]) fs d1 0) : GivesW 75 (fun x => #[x]) fs ts d1 0 := by
  intro v w hv
  simp only [show logN.toArray = #[108, 111, 103] from rfl] at GC
  have HV := hide hv
  obtain ⟨a, n, c, rfl⟩ := disk_slice hv
  clear hv
  go_enter Tryz.func75, Tryz.ntmps75
  go_wp2_with fail
  have X := hide (RBox.start w (.slice a n c))
  generalize (w.alloc (.cells #[.slice a n c] 24)).alloc (.cells #[.slice none 0 0] 24) = W0 at *
  refine (CR _ _ ((unhide HV).next (unhide X).below)).mono ?_
  rintro e w1 ⟨rfl, hb1⟩
  have X1 := (unhide X).next hb1
  have HX1 := hide X1
  clear hb1 X X1 CR
  go_wp2_with fail
  refine (CS _).mono ?_
  rintro e w2 ⟨v2, rfl, hl2, hb2⟩
  have X2 := (unhide HX1).next hb2
  have HL2 := hide hl2
  obtain ⟨al, cl, rfl⟩ := log_slice hl2
  have cd2 := X2.d.c
  have HX2 := hide X2
  clear hb2 hl2 X2 HX1 CS
  go_wp2_with fail
  refine (GC _ _ ((unhide HV).next (unhide HX2).below)).mono ?_
  rintro e w3 ⟨a3, n3, c3, rfl, HD3, hb3⟩
  have X2b := (unhide HX2).next hb3
  have cd3 := X2b.d.c
  have fd3 := X2b.d.f
  have X3 := X2b.setd (.slice a3 n3 c3)
  have cr := X3.r.c
  have fr := X3.r.f
  have ce := X3.d.c
  have HF := hide (And.intro (X3.below.setCell (p := ⟨w.heap.size + 1, 0, none⟩) (by show w.heap.size ≤ w.heap.size + 1; omega) (.slice a3 n3 c3)) (And.intro (disk_box (disk_box (unhide HD3) X2b.d (.slice a3 n3 c3)) X3.r (.slice a3 n3 c3)) (log_box (log_box ((unhide HL2).next hb3) X2b.d (.slice a3 n3 c3)) X3.r (.slice a3 n3 c3))))
  clear hb3 X3 X2b HX2 HD3 HL2 GC cd2 HV
  go_wp2_with fail
  generalize w3.setCell ⟨w.heap.size, 0, none⟩ (.slice a3 n3 c3) = W3 at *
  clear cd3 fd3
  go_region
  go_wp2_with fail
  exact bodyPost_ret (v := .tuple #[.slice al ts.length cl, .agg #[.slice a3 n3 c3], .int .i64 0]) (by simp [results, Tryz.results75, go_sem, cr]) rfl ⟨_, _, _, _, _, _, rfl, hide (unhide HF).2.2.drew, hide (unhide HF).2.1.drew, (unhide HF).1.drew⟩
end Go.Proofs.YthkggmmalffcdaaGreatDoor

namespace Go.Proofs.YthkggmmalffcdaaGreatDoor
open Go.RowKit

/-- how far Decode has come: the result's cells and the cursor -/
structure Dec (w W : World) (r : List UInt8) (b : Bool) : Prop where
  res : TxnAt W w.heap.size t0
  cur : Cur W (w.heap.size + 1) r b
  size : w.heap.size + 2 ≤ W.heap.size
  below : Below w.heap.size w W
theorem Dec.took {w W V : World} {r r' : List UInt8} {b b' : Bool} (h : Dec w W r b) (hc : Cur V (w.heap.size + 1) r' b') (ho : Only (w.heap.size + 1) W V) : Dec w V r' b' :=
  ⟨h.res.other ho (by omega), hc, by rw [ho.size]; exact h.size, ho.below h.below (by omega)⟩
theorem Dec.kept {w W V : World} {r : List UInt8} {b : Bool} (h : Dec w W r b) (hb : Below W.heap.size W V) : Dec w V r b :=
  ⟨h.res.kept hb (by have := h.size; omega), h.cur.kept hb (by have := h.size; omega), Nat.le_trans h.size hb.size, h.below.trans (hb.mono h.below.size)⟩
theorem Dec.new {w : World} {s : List UInt8} : Dec w ((w.alloc (.cells #[.int .i64 0, .int .i64 0, .int .i64 0, .string ⟨#[]⟩, .string ⟨#[]⟩, .int .i64 0, .int .i64 0] 48)).alloc (.cells #[.string ⟨s.toArray⟩, .bool false] 212)) s false := by
  refine ⟨?_, ?_, by simp, ((Below.refl _ _).alloc (Nat.le_refl _) _).alloc (by simp) _⟩
  · exact (Below.heap_alloc _ _ _ (by simp)).trans (heap_new _ _)
  · have := heap_new (w.alloc (.cells #[.int .i64 0, .int .i64 0, .int .i64 0, .string ⟨#[]⟩, .string ⟨#[]⟩, .int .i64 0, .int .i64 0] 48)) (.cells #[.string ⟨s.toArray⟩, .bool false] 212)
    rwa [World.size_alloc] at this
theorem lenOf_lt (s : List UInt8) : lenOf s < 65536 := by
  have h := un_lt ((s.drop 1).take 2)
  have h2 : ((s.drop 1).take 2).length ≤ 2 := List.length_take_le _ _
  have h3 : 256 ^ ((s.drop 1).take 2).length ≤ 256 ^ 2 := Nat.pow_le_pow_right (by decide) h2
  unfold lenOf
  omega
def lackD (s : List UInt8) : Bool := false || decide (s.length < 1) || decide ((s.drop 1).length < 2) || decide ((s.drop 3).length < lenOf s) || decide ((s.drop (3 + lenOf s)).length < 4)
theorem lackD_iff {s : List UInt8} : lackD s = false ↔ lenOf s + 7 ≤ s.length := by
  simp only [lackD, Bool.or_eq_false_iff, decide_eq_false_iff_not, List.length_drop, true_and]
  omega
theorem ret_dec {a b : Value} {i j k l : Int} (h : a = b) (h1 : i = j) (h2 : k = l) : Ending.returned (.tuple #[a, .int .i64 i, .int .i64 k]) = .returned (.tuple #[b, .int .i64 j, .int .i64 l]) := by rw [h, h1, h2]

set_option maxRecDepth 10000 in
set_option maxHeartbeats 2000000 in
theorem decode_mark (s : List UInt8) (w : World) (hm : s.take 1 ≠ [84]) :
    Calls Tryz.prog 152 #[.string ⟨s.toArray⟩] w fun e w' => e = .returned (.tuple #[txnV (decT s), .int .i64 (decN s), .int .i64 (decE s)]) ∧ Below w.heap.size w w' := by
  have HU := hide (dec_bad (s := s) (wholeB_no (fun h => hm h.1)))
  have hlt := lenOf_lt s
  obtain ⟨T, hT⟩ : ∃ T, s.take 1 = T := ⟨_, rfl⟩
  rw [hT] at hm
  have hm' : (T == [84]) = false := by simpa using hm
  have ET := hide hT
  clear hT hm
  go_enter Tryz.func152, Tryz.ntmps152
  go_wp2_with fail
  refine (along_any s _).mono ?_
  rintro e wA ⟨rfl, rfl⟩
  go_wp2_with fail
  have H := hide (Dec.new (w := w) (s := s))
  generalize (w.alloc _).alloc _ = W at H ⊢
  refine (text_any (w.heap.size + 1) 1 _ _ _ (by decide) (unhide H).cur).mono ?_
  rintro e w1 ⟨rfl, hc1, ho1⟩
  replace H := hide ((unhide H).took hc1 ho1)
  clear hc1 ho1 W
  generalize w1 = W at *
  rw [unhide ET]
  go_wp2_with fail
  refine (cnumber_any (w.heap.size + 1) 2 _ _ _ (by decide) (unhide H).cur).mono ?_
  rintro e w1 ⟨rfl, hc1, ho1⟩
  replace H := hide ((unhide H).took hc1 ho1)
  clear hc1 ho1 W
  generalize w1 = W at *
  rw [un_take_le _ _ (by decide)]
  rw [show un ((s.drop 1).take 2) = lenOf s from rfl]
  simp only [List.drop_drop, Nat.reduceAdd] at H
  obtain ⟨L, hL⟩ : ∃ L, lenOf s = L := ⟨_, rfl⟩
  rw [hL] at hlt ⊢
  have EL := hide hL
  clear hL
  have r0 : W.cell? ⟨w.heap.size, 0, none⟩ = some (.int .i64 0) := (unhide H).res.c0
  have r1 : W.cell? ⟨w.heap.size, 1, none⟩ = some (.int .i64 0) := (unhide H).res.c1
  have r2 : W.cell? ⟨w.heap.size, 2, none⟩ = some (.int .i64 0) := (unhide H).res.c2
  have r3 : W.cell? ⟨w.heap.size, 3, none⟩ = some (.string ⟨#[]⟩) := (unhide H).res.c3
  have r4 : W.cell? ⟨w.heap.size, 4, none⟩ = some (.string ⟨#[]⟩) := (unhide H).res.c4
  have r5 : W.cell? ⟨w.heap.size, 5, none⟩ = some (.int .i64 0) := (unhide H).res.c5
  have r6 : W.cell? ⟨w.heap.size, 6, none⟩ = some (.int .i64 0) := (unhide H).res.c6
  have rf := (unhide H).res.f
  go_wp2_with fail
  change bodyPost _ _ _ _ _ (putTxn W w.heap.size t0)
  have HP := hide ((unhide H).res.store t0)
  have hB : Below w.heap.size w (putTxn W w.heap.size t0) := (only_put _ _ _).below (unhide H).below (Nat.le_refl _)
  generalize putTxn W w.heap.size t0 = V2 at HP hB ⊢
  have s0 := (unhide HP).c0
  have s1 := (unhide HP).c1
  have s2 := (unhide HP).c2
  have s3 := (unhide HP).c3
  have s4 := (unhide HP).c4
  have s5 := (unhide HP).c5
  have s6 := (unhide HP).c6
  exact bodyPost_ret (v := .tuple #[txnV t0, .int .i64 0, .int .i64 2]) (by simp [results, Tryz.results152, go_sem, s0, s1, s2, s3, s4, s5, s6, txnV]) rfl ⟨by rw [(unhide HU).1, (unhide HU).2.1, (unhide HU).2.2], hB⟩

set_option maxRecDepth 10000 in
set_option maxHeartbeats 2000000 in
theorem decode_long (s : List UInt8) (w : World) (hm : s.take 1 = [84]) (hl : 1024 < lenOf s) :
    Calls Tryz.prog 152 #[.string ⟨s.toArray⟩] w fun e w' => e = .returned (.tuple #[txnV (decT s), .int .i64 (decN s), .int .i64 (decE s)]) ∧ Below w.heap.size w w' := by
  have HU := hide (dec_bad (s := s) (wholeB_no (fun h => by omega)))
  have ET := hide hm
  clear hm
  go_enter Tryz.func152, Tryz.ntmps152
  go_wp2_with fail
  refine (along_any s _).mono ?_
  rintro e wA ⟨rfl, rfl⟩
  go_wp2_with fail
  have H := hide (Dec.new (w := w) (s := s))
  generalize (w.alloc _).alloc _ = W at H ⊢
  refine (text_any (w.heap.size + 1) 1 _ _ _ (by decide) (unhide H).cur).mono ?_
  rintro e w1 ⟨rfl, hc1, ho1⟩
  replace H := hide ((unhide H).took hc1 ho1)
  clear hc1 ho1 W
  generalize w1 = W at *
  rw [unhide ET]
  go_wp2_with fail
  refine (cnumber_any (w.heap.size + 1) 2 _ _ _ (by decide) (unhide H).cur).mono ?_
  rintro e w1 ⟨rfl, hc1, ho1⟩
  replace H := hide ((unhide H).took hc1 ho1)
  clear hc1 ho1 W
  generalize w1 = W at *
  rw [un_take_le _ _ (by decide)]
  rw [show un ((s.drop 1).take 2) = lenOf s from rfl]
  simp only [List.drop_drop, Nat.reduceAdd] at H
  obtain ⟨L, hL⟩ : ∃ L, lenOf s = L := ⟨_, rfl⟩
  rw [hL] at hl ⊢
  have EL := hide hL
  clear hL
  have r0 : W.cell? ⟨w.heap.size, 0, none⟩ = some (.int .i64 0) := (unhide H).res.c0
  have r1 : W.cell? ⟨w.heap.size, 1, none⟩ = some (.int .i64 0) := (unhide H).res.c1
  have r2 : W.cell? ⟨w.heap.size, 2, none⟩ = some (.int .i64 0) := (unhide H).res.c2
  have r3 : W.cell? ⟨w.heap.size, 3, none⟩ = some (.string ⟨#[]⟩) := (unhide H).res.c3
  have r4 : W.cell? ⟨w.heap.size, 4, none⟩ = some (.string ⟨#[]⟩) := (unhide H).res.c4
  have r5 : W.cell? ⟨w.heap.size, 5, none⟩ = some (.int .i64 0) := (unhide H).res.c5
  have r6 : W.cell? ⟨w.heap.size, 6, none⟩ = some (.int .i64 0) := (unhide H).res.c6
  have rf := (unhide H).res.f
  go_wp2_with fail
  change bodyPost _ _ _ _ _ (putTxn W w.heap.size t0)
  have HP := hide ((unhide H).res.store t0)
  have hB : Below w.heap.size w (putTxn W w.heap.size t0) := (only_put _ _ _).below (unhide H).below (Nat.le_refl _)
  generalize putTxn W w.heap.size t0 = V2 at HP hB ⊢
  have s0 := (unhide HP).c0
  have s1 := (unhide HP).c1
  have s2 := (unhide HP).c2
  have s3 := (unhide HP).c3
  have s4 := (unhide HP).c4
  have s5 := (unhide HP).c5
  have s6 := (unhide HP).c6
  exact bodyPost_ret (v := .tuple #[txnV t0, .int .i64 0, .int .i64 2]) (by simp [results, Tryz.results152, go_sem, s0, s1, s2, s3, s4, s5, s6, txnV]) rfl ⟨by rw [(unhide HU).1, (unhide HU).2.1, (unhide HU).2.2], hB⟩

set_option maxRecDepth 10000 in
set_option maxHeartbeats 2000000 in
theorem decode_short (s : List UInt8) (w : World) (hs : s.length ≤ 140737488355328) (hm : s.take 1 = [84]) (hl : lenOf s ≤ 1024) (hn : s.length < lenOf s + 7) :
    Calls Tryz.prog 152 #[.string ⟨s.toArray⟩] w fun e w' => e = .returned (.tuple #[txnV (decT s), .int .i64 (decN s), .int .i64 (decE s)]) ∧ Below w.heap.size w w' := by
  have HU := hide (dec_bad (s := s) (wholeB_no (fun h => by omega)))
  have hlk : lackD s = true := by
    cases h : lackD s with
    | true => rfl
    | false => have := lackD_iff.1 h; omega
  have HK := hide hlk
  have ET := hide hm
  clear hm hlk
  go_enter Tryz.func152, Tryz.ntmps152
  go_wp2_with fail
  refine (along_any s _).mono ?_
  rintro e wA ⟨rfl, rfl⟩
  go_wp2_with fail
  have H := hide (Dec.new (w := w) (s := s))
  generalize (w.alloc _).alloc _ = W at H ⊢
  refine (text_any (w.heap.size + 1) 1 _ _ _ (by decide) (unhide H).cur).mono ?_
  rintro e w1 ⟨rfl, hc1, ho1⟩
  replace H := hide ((unhide H).took hc1 ho1)
  clear hc1 ho1 W
  generalize w1 = W at *
  rw [unhide ET]
  go_wp2_with fail
  refine (cnumber_any (w.heap.size + 1) 2 _ _ _ (by decide) (unhide H).cur).mono ?_
  rintro e w1 ⟨rfl, hc1, ho1⟩
  replace H := hide ((unhide H).took hc1 ho1)
  clear hc1 ho1 W
  generalize w1 = W at *
  rw [un_take_le _ _ (by decide)]
  rw [show un ((s.drop 1).take 2) = lenOf s from rfl]
  simp only [List.drop_drop, Nat.reduceAdd] at H
  obtain ⟨L, hL⟩ : ∃ L, lenOf s = L := ⟨_, rfl⟩
  rw [hL] at hl hn ⊢
  have EL := hide hL
  clear hL
  go_wp2_with fail
  refine (text_any (w.heap.size + 1) L _ _ _ (by omega) (unhide H).cur).mono ?_
  rintro e w1 ⟨rfl, hc1, ho1⟩
  replace H := hide ((unhide H).took hc1 ho1)
  clear hc1 ho1 W
  generalize w1 = W at *
  simp only [List.drop_drop] at H
  have CL := hide (left_any (w.heap.size + 1) _ _ _ (unhide H).cur)
  rw [List.length_drop] at CL
  have hzs : (ByteArray.mk s.toArray).size = s.length := Lib.size_eq ⟨s.toArray⟩
  go_wp2_with fail
  refine (unhide CL).mono ?_
  rintro e wL ⟨rfl, hwL⟩
  rw [hwL]
  clear hwL
  clear CL
  go_wp2_with fail
  refine (cnumber_any (w.heap.size + 1) 4 _ _ _ (by decide) (unhide H).cur).mono ?_
  rintro e w1 ⟨rfl, hc1, ho1⟩
  replace H := hide ((unhide H).took hc1 ho1)
  clear hc1 ho1 W
  generalize w1 = W at *
  simp only [List.drop_drop] at H
  have cc1 := (unhide H).cur
  rw [← unhide EL] at cc1
  have cc2 : Cur W (w.heap.size + 1) _ (lackD s) := cc1
  rw [unhide HK] at cc2
  have CSh := hide (short_any _ _ _ _ cc2)
  clear cc1 cc2
  go_wp2_with fail
  refine (unhide CSh).mono ?_
  rintro e wS ⟨rfl, hwS⟩
  rw [hwS]
  clear hwS
  clear CSh
  have r0 : W.cell? ⟨w.heap.size, 0, none⟩ = some (.int .i64 0) := (unhide H).res.c0
  have r1 : W.cell? ⟨w.heap.size, 1, none⟩ = some (.int .i64 0) := (unhide H).res.c1
  have r2 : W.cell? ⟨w.heap.size, 2, none⟩ = some (.int .i64 0) := (unhide H).res.c2
  have r3 : W.cell? ⟨w.heap.size, 3, none⟩ = some (.string ⟨#[]⟩) := (unhide H).res.c3
  have r4 : W.cell? ⟨w.heap.size, 4, none⟩ = some (.string ⟨#[]⟩) := (unhide H).res.c4
  have r5 : W.cell? ⟨w.heap.size, 5, none⟩ = some (.int .i64 0) := (unhide H).res.c5
  have r6 : W.cell? ⟨w.heap.size, 6, none⟩ = some (.int .i64 0) := (unhide H).res.c6
  have rf := (unhide H).res.f
  go_wp2_with fail
  change bodyPost _ _ _ _ _ (putTxn W w.heap.size t0)
  have HP := hide ((unhide H).res.store t0)
  have hB : Below w.heap.size w (putTxn W w.heap.size t0) := (only_put _ _ _).below (unhide H).below (Nat.le_refl _)
  generalize putTxn W w.heap.size t0 = V2 at HP hB ⊢
  have s0 := (unhide HP).c0
  have s1 := (unhide HP).c1
  have s2 := (unhide HP).c2
  have s3 := (unhide HP).c3
  have s4 := (unhide HP).c4
  have s5 := (unhide HP).c5
  have s6 := (unhide HP).c6
  exact bodyPost_ret (v := .tuple #[txnV t0, .int .i64 0, .int .i64 2]) (by simp [results, Tryz.results152, go_sem, s0, s1, s2, s3, s4, s5, s6, txnV]) rfl ⟨by rw [(unhide HU).1, (unhide HU).2.1, (unhide HU).2.2], hB⟩

end Go.Proofs.YthkggmmalffcdaaGreatDoor

namespace Go.Proofs.YthkggmmalffcdaaGreatDoor
open Go.RowKit
set_option maxRecDepth 10000 in

set_option maxHeartbeats 400000 in
theorem decode_whole (s : List UInt8) (w : World) (hm : s.take 1 = [84]) (hl : lenOf s ≤ 1024) (hn : lenOf s + 7 ≤ s.length) :
    Calls Tryz.prog 152 #[.string ⟨s.toArray⟩] w fun e w' => e = .returned (.tuple #[txnV (decT s), .int .i64 (decN s), .int .i64 (decE s)]) ∧ Below w.heap.size w w' := by
  have HW := hide (wholeB_iff.2 ⟨hm, hl, hn⟩)
  have hlk : lackD s = false := lackD_iff.2 hn
  have HK := hide hlk
  have ET := hide hm
  clear hm hlk
  go_enter Tryz.func152, Tryz.ntmps152
  go_wp2_with fail
  refine (along_any s _).mono ?_
  rintro e wA ⟨rfl, rfl⟩
  go_wp2_with fail
  have H := hide (Dec.new (w := w) (s := s))
  generalize (w.alloc _).alloc _ = W at H ⊢
  refine (text_any (w.heap.size + 1) 1 _ _ _ (by decide) (unhide H).cur).mono ?_
  rintro e w1 ⟨rfl, hc1, ho1⟩
  replace H := hide ((unhide H).took hc1 ho1)
  clear hc1 ho1 W
  generalize w1 = W at *
  rw [unhide ET]
  go_wp2_with fail
  refine (cnumber_any (w.heap.size + 1) 2 _ _ _ (by decide) (unhide H).cur).mono ?_
  rintro e w1 ⟨rfl, hc1, ho1⟩
  replace H := hide ((unhide H).took hc1 ho1)
  clear hc1 ho1 W
  generalize w1 = W at *
  rw [un_take_le _ _ (by decide)]
  rw [show un ((s.drop 1).take 2) = lenOf s from rfl]
  simp only [List.drop_drop, Nat.reduceAdd] at H
  obtain ⟨L, hL⟩ : ∃ L, lenOf s = L := ⟨_, rfl⟩
  rw [hL] at hl hn ⊢
  have EL := hide hL
  clear hL
  go_wp2_with fail
  refine (text_any (w.heap.size + 1) L _ _ _ (by omega) (unhide H).cur).mono ?_
  rintro e w1 ⟨rfl, hc1, ho1⟩
  replace H := hide ((unhide H).took hc1 ho1)
  clear hc1 ho1 W
  generalize w1 = W at *
  simp only [List.drop_drop] at H
  obtain ⟨B, hB⟩ : ∃ B, (s.drop 3).take L = B := ⟨_, rfl⟩
  rw [hB]
  have EB := hide hB
  clear hB
  have CL := hide (left_any (w.heap.size + 1) _ _ _ (unhide H).cur)
  rw [List.length_drop] at CL
  have hzs : (ByteArray.mk s.toArray).size = s.length := Lib.size_eq ⟨s.toArray⟩
  obtain ⟨M, hM⟩ : ∃ M, s.length - (3 + L) = M := ⟨_, rfl⟩
  rw [hM] at CL
  have hM2 : s.length = M + (L + 3) := by omega
  obtain ⟨Y, hY⟩ : ∃ Y, s.drop (3 + L) = Y := ⟨_, rfl⟩
  have EY := hide hY
  have HM := hide hM2
  clear hY hM hM2
  go_wp2_with fail
  refine (unhide CL).mono ?_
  rintro e wL ⟨rfl, hwL⟩
  rw [hwL]
  clear hwL
  clear CL
  go_wp2_with fail
  refine (cnumber_any (w.heap.size + 1) 4 _ _ _ (by decide) (unhide H).cur).mono ?_
  rintro e w1 ⟨rfl, hc1, ho1⟩
  replace H := hide ((unhide H).took hc1 ho1)
  clear hc1 ho1 W
  generalize w1 = W at *
  simp only [List.drop_drop] at H
  have cc1 := (unhide H).cur
  rw [← unhide EL] at cc1
  have cc3 : Cur W (w.heap.size + 1) _ (lackD s) := cc1
  rw [unhide HK] at cc3
  have CSh := hide (short_any _ _ _ _ cc3)
  have cc2 := cc3.c1
  clear cc1 cc3
  rw [un_take_le _ _ (by decide), show 3 + L = L + 3 from by omega]
  obtain ⟨Q, hQ⟩ : ∃ Q, un ((s.drop (L + 3)).take 4) = Q := ⟨_, rfl⟩
  rw [hQ]
  have EQ := hide hQ
  clear hQ
  have hd3 : wrap64 ((s.length : Int) - (M : Int)) = (L : Int) + 3 := by have := unhide HM; unfold wrap64; omega
  rw [hd3]
  clear hd3
  have c1 : (0 : Int) ≤ (L : Int) + 3 := by omega
  have c2 : (L : Int) + 3 ≤ (s.length : Int) := by omega
  go_wp2_with fail
  refine (unhide CSh).mono ?_
  rintro e wS ⟨rfl, hwS⟩
  rw [hwS]
  clear hwS
  clear CSh
  go_wp2_with fail
  rw [ex_front]
  have hzp : (ByteArray.mk (s.take (L + 3)).toArray).size = (s.take (L + 3)).length := Lib.size_eq ⟨_⟩
  rw [List.length_take] at hzp
  refine (wsum_any ⟨(s.take (L + 3)).toArray⟩ _ (by omega)).mono ?_
  rintro e w6 ⟨rfl, hw6⟩
  rw [hw6]
  clear hzp hw6
  rw [show (ByteArray.mk (s.take (L + 3)).toArray).data.toList = s.take (L + 3) from rfl]
  obtain ⟨X, hX⟩ : ∃ X, sumN (s.take (L + 3)) = X := ⟨_, rfl⟩
  rw [hX]
  have EX := hide hX
  clear hX
  by_cases hXQ : X = Q
  · subst hXQ
    have Hsum : Hid (sumB s = true) := hide (sumB_iff.2 (by rw [unhide EL, unhide EQ, unhide EX]))
    have Hin : Hid (insideL s = B) := hide (by rw [insideL, unhide EL, unhide EB])
    go_wp2_with fail
    refine (unfold_any B _).mono ?_
    rintro e w5 ⟨rfl, hb5⟩
    replace H := hide ((unhide H).kept hb5)
    clear hb5 cc2 W
    generalize w5 = W at *
    by_cases hE : unfE B = 0
    · have HU := hide (dec_ok (unhide HW) (unhide Hsum) (by rw [unhide Hin]; exact hE))
      have Ht : Hid (unfT B = tOf B) := hide (by rw [unfT, hE, if_pos rfl])
      rw [hE, unhide Ht]
      rw [unhide Hin, unhide EL] at HU
      obtain ⟨t, ht⟩ : ∃ t, tOf B = t := ⟨_, rfl⟩
      rw [ht] at HU ⊢
      clear ht hE Ht
      obtain ⟨z, o, s', p, d, v, u⟩ := t
      unfold txnV
      have r0 : W.cell? ⟨w.heap.size, 0, none⟩ = some (.int .i64 0) := (unhide H).res.c0
      have r1 : W.cell? ⟨w.heap.size, 1, none⟩ = some (.int .i64 0) := (unhide H).res.c1
      have r2 : W.cell? ⟨w.heap.size, 2, none⟩ = some (.int .i64 0) := (unhide H).res.c2
      have r3 : W.cell? ⟨w.heap.size, 3, none⟩ = some (.string ⟨#[]⟩) := (unhide H).res.c3
      have r4 : W.cell? ⟨w.heap.size, 4, none⟩ = some (.string ⟨#[]⟩) := (unhide H).res.c4
      have r5 : W.cell? ⟨w.heap.size, 5, none⟩ = some (.int .i64 0) := (unhide H).res.c5
      have r6 : W.cell? ⟨w.heap.size, 6, none⟩ = some (.int .i64 0) := (unhide H).res.c6
      have rf := (unhide H).res.f
      have hlt2 : w.heap.size < W.heap.size := by have := (unhide H).size; omega
      go_wp2_with fail
      change bodyPost _ _ _ _ _ ((putTxn W w.heap.size ⟨z, o, s', p, d, v, u⟩).alloc (.cells #[.int .i64 z, .int .i64 o, .int .i64 s', .string ⟨p.toArray⟩, .string ⟨d.toArray⟩, .int .i64 v, .int .i64 u] 48))
      have HP := hide (((unhide H).res.store ⟨z, o, s', p, d, v, u⟩).kept ((Below.refl _ _).alloc (Nat.le_refl _) (.cells #[.int .i64 z, .int .i64 o, .int .i64 s', .string ⟨p.toArray⟩, .string ⟨d.toArray⟩, .int .i64 v, .int .i64 u] 48)) (by rw [(only_put _ _ _).size]; exact hlt2))
      have hB : Below w.heap.size w ((putTxn W w.heap.size ⟨z, o, s', p, d, v, u⟩).alloc (.cells #[.int .i64 z, .int .i64 o, .int .i64 s', .string ⟨p.toArray⟩, .string ⟨d.toArray⟩, .int .i64 v, .int .i64 u] 48)) := ((only_put _ _ _).below (unhide H).below (Nat.le_refl _)).alloc (by rw [(only_put _ _ _).size]; exact Nat.le_of_lt hlt2) _
      generalize (putTxn W w.heap.size ⟨z, o, s', p, d, v, u⟩).alloc (.cells #[.int .i64 z, .int .i64 o, .int .i64 s', .string ⟨p.toArray⟩, .string ⟨d.toArray⟩, .int .i64 v, .int .i64 u] 48) = V2 at HP hB ⊢
      have s0 := (unhide HP).c0
      have s1 := (unhide HP).c1
      have s2 := (unhide HP).c2
      have s3 := (unhide HP).c3
      have s4 := (unhide HP).c4
      have s5 := (unhide HP).c5
      have s6 := (unhide HP).c6
      exact bodyPost_ret (v := .tuple #[txnV ⟨z, o, s', p, d, v, u⟩, .int .i64 ((L : Int) + 3 + 4), .int .i64 0]) (by simp [results, Tryz.results152, go_sem, s0, s1, s2, s3, s4, s5, s6, txnV]) rfl ⟨ret_dec (by rw [(unhide HU).2.1]) (by rw [(unhide HU).2.2]; omega) (unhide HU).1.symm, hB⟩
    · have HU := hide (dec_form (unhide HW) (unhide Hsum) (by rw [unhide Hin]) hE)
      have Ht : Hid (unfT B = t0) := hide (by rw [unfT, if_neg hE])
      rw [unhide Ht]
      obtain ⟨E, hEE⟩ : ∃ E, unfE B = E := ⟨_, rfl⟩
      rw [hEE] at HU hE ⊢
      have hne : (E != 0) = true := by simpa [bne] using hE
      clear hEE hE Ht
      unfold txnV t0
      have r0 : W.cell? ⟨w.heap.size, 0, none⟩ = some (.int .i64 0) := (unhide H).res.c0
      have r1 : W.cell? ⟨w.heap.size, 1, none⟩ = some (.int .i64 0) := (unhide H).res.c1
      have r2 : W.cell? ⟨w.heap.size, 2, none⟩ = some (.int .i64 0) := (unhide H).res.c2
      have r3 : W.cell? ⟨w.heap.size, 3, none⟩ = some (.string ⟨#[]⟩) := (unhide H).res.c3
      have r4 : W.cell? ⟨w.heap.size, 4, none⟩ = some (.string ⟨#[]⟩) := (unhide H).res.c4
      have r5 : W.cell? ⟨w.heap.size, 5, none⟩ = some (.int .i64 0) := (unhide H).res.c5
      have r6 : W.cell? ⟨w.heap.size, 6, none⟩ = some (.int .i64 0) := (unhide H).res.c6
      have rf := (unhide H).res.f
      have hlt2 : w.heap.size < W.heap.size := by have := (unhide H).size; omega
      go_wp2_with fail
      change bodyPost _ _ _ _ _ ((putTxn W w.heap.size t0).alloc (.cells #[.int .i64 0, .int .i64 0, .int .i64 0, .string ⟨#[]⟩, .string ⟨#[]⟩, .int .i64 0, .int .i64 0] 48))
      have HP := hide (((unhide H).res.store t0).kept ((Below.refl _ _).alloc (Nat.le_refl _) (.cells #[.int .i64 0, .int .i64 0, .int .i64 0, .string ⟨#[]⟩, .string ⟨#[]⟩, .int .i64 0, .int .i64 0] 48)) (by rw [(only_put _ _ _).size]; exact hlt2))
      have hB : Below w.heap.size w ((putTxn W w.heap.size t0).alloc (.cells #[.int .i64 0, .int .i64 0, .int .i64 0, .string ⟨#[]⟩, .string ⟨#[]⟩, .int .i64 0, .int .i64 0] 48)) := ((only_put _ _ _).below (unhide H).below (Nat.le_refl _)).alloc (by rw [(only_put _ _ _).size]; exact Nat.le_of_lt hlt2) _
      generalize (putTxn W w.heap.size t0).alloc (.cells #[.int .i64 0, .int .i64 0, .int .i64 0, .string ⟨#[]⟩, .string ⟨#[]⟩, .int .i64 0, .int .i64 0] 48) = V2 at HP hB ⊢
      have s0 := (unhide HP).c0
      have s1 := (unhide HP).c1
      have s2 := (unhide HP).c2
      have s3 := (unhide HP).c3
      have s4 := (unhide HP).c4
      have s5 := (unhide HP).c5
      have s6 := (unhide HP).c6
      exact bodyPost_ret (v := .tuple #[txnV t0, .int .i64 0, .int .i64 E]) (by simp [results, Tryz.results152, go_sem, s0, s1, s2, s3, s4, s5, s6, txnV]) rfl ⟨by rw [(unhide HU).1, (unhide HU).2.1, (unhide HU).2.2], hB⟩
  · have Hsum : Hid (sumB s = false) := hide (by
      cases h : sumB s with
      | false => rfl
      | true =>
        have h2 := sumB_iff.1 h
        rw [unhide EL, unhide EQ, unhide EX] at h2
        exact absurd h2.symm hXQ)
    have HU := hide (dec_sum (unhide HW) (unhide Hsum))
    have hne : ((X : Int) != (Q : Int)) = true := by simp [bne]; omega
    have r0 : W.cell? ⟨w.heap.size, 0, none⟩ = some (.int .i64 0) := (unhide H).res.c0
    have r1 : W.cell? ⟨w.heap.size, 1, none⟩ = some (.int .i64 0) := (unhide H).res.c1
    have r2 : W.cell? ⟨w.heap.size, 2, none⟩ = some (.int .i64 0) := (unhide H).res.c2
    have r3 : W.cell? ⟨w.heap.size, 3, none⟩ = some (.string ⟨#[]⟩) := (unhide H).res.c3
    have r4 : W.cell? ⟨w.heap.size, 4, none⟩ = some (.string ⟨#[]⟩) := (unhide H).res.c4
    have r5 : W.cell? ⟨w.heap.size, 5, none⟩ = some (.int .i64 0) := (unhide H).res.c5
    have r6 : W.cell? ⟨w.heap.size, 6, none⟩ = some (.int .i64 0) := (unhide H).res.c6
    have rf := (unhide H).res.f
    go_wp2_with fail
    change bodyPost _ _ _ _ _ (putTxn W w.heap.size t0)
    have HP := hide ((unhide H).res.store t0)
    have hB : Below w.heap.size w (putTxn W w.heap.size t0) := (only_put _ _ _).below (unhide H).below (Nat.le_refl _)
    generalize putTxn W w.heap.size t0 = V2 at HP hB ⊢
    have s0 := (unhide HP).c0
    have s1 := (unhide HP).c1
    have s2 := (unhide HP).c2
    have s3 := (unhide HP).c3
    have s4 := (unhide HP).c4
    have s5 := (unhide HP).c5
    have s6 := (unhide HP).c6
    exact bodyPost_ret (v := .tuple #[txnV t0, .int .i64 0, .int .i64 5]) (by simp [results, Tryz.results152, go_sem, s0, s1, s2, s3, s4, s5, s6, txnV]) rfl ⟨by rw [(unhide HU).1, (unhide HU).2.1, (unhide HU).2.2], hB⟩

theorem decode_any (s : List UInt8) (w : World) (hs : s.length ≤ 140737488355328) :
    Calls Tryz.prog 152 #[.string ⟨s.toArray⟩] w fun e w' => e = .returned (.tuple #[txnV (decT s), .int .i64 (decN s), .int .i64 (decE s)]) ∧ Below w.heap.size w w' := by
  by_cases hm : s.take 1 = [84]
  · by_cases hl : lenOf s ≤ 1024
    · by_cases hn : lenOf s + 7 ≤ s.length
      · exact decode_whole s w hm hl hn
      · exact decode_short s w hs hm hl (by omega)
    · exact decode_long s w hm (by omega)
  · exact decode_mark s w hm

end Go.Proofs.YthkggmmalffcdaaGreatDoor

namespace Go.Proofs.YthkggmmalffcdaaGreatDoor
open Go.RowKit

theorem scan_any {s r : List UInt8} {ts : List WTxn} (S : Scan s ts r) (hs : s.length ≤ 1048576) : GivesL 107 s ts (recsL ts).length := fun W =>
  (scan_of (fun s w h => decode_any s w h) s r ts W S hs).mono fun _ _ ⟨v, he, ho, hb⟩ => ⟨v, he, ho.log, hb⟩
theorem recover_no {fs : List DF} {E : Int} (hs : Slim fs) (h : RecNo fs E) : GivesW 63 (fun x => #[x]) fs [] [] E := by
  rcases h with ⟨h, rfl⟩ | ⟨g, h16, ⟨A, B, G⟩, rfl⟩
  · exact wrec_bad fs 3 (fun v W hv => read_no v fs logN 3 W hv hs (.inl ⟨h, rfl⟩)) (by decide) (by decide)
  · exact wrec_gap_any fs [] 6 (fun v W hv => read_no v fs logN 7 W hv hs (.inr ⟨g, ⟨A, B, G⟩, rfl⟩))
      (dgives_no fun v W hv => write_no v fs logN [] 6 W hv hs (by decide) (by decide) (.inr (.inr (.inl ⟨g, named_log, h16, ⟨A, B, G⟩, rfl⟩))))
theorem recover_yes {fs A B : List DF} {ts : List WTxn} (h : RecYes fs ts A B) : GivesW 63 (fun x => #[x]) fs ts (A ++ logF ts :: B) 0 := by
  have hs := good_slim h.good
  rcases h.old with ⟨h16, G, rfl⟩ | ⟨f, r, T, S⟩
  · exact wrec_gap_any fs _ 0 (fun v W hv => read_no v fs logN 7 W hv hs (.inr ⟨h.good, ⟨A, B, G⟩, rfl⟩))
      (gives_own fun v W hv => write_new v fs A B logN [] W hv hs h.good named_log h16 G (by decide))
  · have hf := fileOk_len (T.ok h.good)
    have hl := S.len
    rw [List.length_append] at hl
    refine wrec_there fs _ (f.s ++ f.t) ts (recsL ts).length (fun v W hv => read_there v fs A B f logN W hv hs h.good T) (scan_any S (by rw [List.length_append]; omega)) (gives_own fun v W hv => ?_)
    have := cut_there v fs A B f logN (recsL ts).length W hv hs h.good T (by omega)
    rw [S.eq, List.take_left, T.nm] at this
    exact this

theorem keepL_at {z : Int} : ∀ {ts : List WTxn} {k : Nat} {t : WTxn}, ts[k]? = some t → (k < (keepL z ts).length → t.z ≤ z) ∧ (k = (keepL z ts).length → ¬ t.z ≤ z)
  | [], k, t, h => by simp at h
  | x :: l, 0, t, h => by
    simp at h
    subst h
    unfold keepL
    by_cases hx : x.z ≤ z
    · rw [List.takeWhile_cons_of_pos (by simpa using hx)]; simp [hx]
    · rw [List.takeWhile_cons_of_neg (by simpa using hx)]; simp; omega
  | x :: l, k + 1, t, h => by
    have ih := keepL_at (z := z) (ts := l) (k := k) (t := t) (by simpa using h)
    unfold keepL at ih ⊢
    by_cases hx : x.z ≤ z
    · rw [List.takeWhile_cons_of_pos (by simpa using hx)]; simpa using ih
    · rw [List.takeWhile_cons_of_neg (by simpa using hx)]; simp
theorem keepL_is (z : Int) (ts : List WTxn) : ts.take (keepL z ts).length = keepL z ts ∧ (keepL z ts).length ≤ ts.length := by
  obtain ⟨b, e⟩ := keepL_split z ts
  generalize keepL z ts = a at *
  subst e
  simp
theorem recs_take_le (ts : List WTxn) (k : Nat) : (recsL (ts.take k)).length ≤ (recsL ts).length := by
  have : recsL ts = recsL (ts.take k) ++ recsL (ts.drop k) := by rw [← recsL_append, List.take_append_drop]
  rw [this]; simp

theorem ret_n {i j : Nat} (h : i = j) : Ending.returned (.int .i64 (i : Int)) = .returned (.int .i64 (j : Int)) := by rw [h]

set_option maxRecDepth 10000 in
set_option maxHeartbeats 1000000 in
theorem upTo_any (v : Value) (ts : List WTxn) (z : Int) (w : World) (hv : LogV w v ts) (hL : ∀ t ∈ ts, gdE t = 0) (hs : (recsL ts).length ≤ 1048576) :
    Calls Tryz.prog 67 #[v, .int .i64 z] w fun e w' => e = .returned (.int .i64 ((recsL (keepL z ts)).length : Nat)) ∧ Below w.heap.size w w' := by
  have hlen := recsL_ge ts
  have HV := hide hv
  have HG := hide hL
  have HK := hide (keepL_is z ts)
  have HA := hide (fun k t h => keepL_at (z := z) (ts := ts) (k := k) (t := t) h)
  have hK := (keepL_is z ts).2
  generalize keepL z ts = K at *
  obtain ⟨a, c, rfl⟩ := log_slice hv
  clear hv hL
  go_enter Tryz.func67, Tryz.ntmps67
  go_wp2_with fail
  go_loopg [5, 12] ts.length (fun kx s5 s12 wr => ∃ (k N : Nat), s5 = .int .i64 N ∧ s12 = .int .i64 k ∧ k ≤ K.length ∧ ts.length - k ≤ kx ∧ Hid ((recsL (ts.take k)).length = N) ∧ Hid (Below w.heap.size w wr))
  case atStart => exact ⟨0, 0, rfl, rfl, Nat.zero_le _, by omega, hide rfl, hide (Below.refl _ _)⟩
  case round =>
    obtain ⟨k, N, rfl, rfl, hk, hkx, HN, HB⟩ := hrel
    by_cases hlt : k < ts.length
    · obtain ⟨t, ht⟩ : ∃ t, ts[k]? = some t := ⟨_, List.getElem?_eq_getElem hlt⟩
      obtain ⟨b, off, cap, he, hb, hr, _, _, _⟩ := log_row ((unhide HV).next (unhide HB)) ht
      simp only [Value.slice.injEq, true_and] at he
      obtain ⟨rfl, rfl⟩ := he
      have e0 := hr.z ht
      have e1 := hr.o ht
      have e2 := hr.s ht
      have e3 := hr.p ht
      have e4 := hr.d ht
      have e5 := hr.v ht
      have e6 := hr.w ht
      have hlti : (k : Int) < (ts.length : Int) := by omega
      have hg := unhide HG t (List.mem_of_getElem? ht)
      have C := fun W => encode_yes t W hg
      have hat := unhide HA k t ht
      have HL := hide (take_more1 ht)
      have hN1 := recs_take_le ts (k + 1)
      rw [take_more1 ht, recsL_snoc, List.length_append, unhide HN] at hN1
      clear hr ht hb hg
      obtain ⟨R, hR⟩ : ∃ R, recL t = R := ⟨_, rfl⟩
      rw [hR] at C hN1
      have HR := hide hR
      have hzR : (ByteArray.mk R.toArray).size = R.length := Lib.size_eq ⟨R.toArray⟩
      clear hR
      have HB2 := fun o => hide ((unhide HB).alloc (unhide HB).size o)
      obtain ⟨z1, o1, s1, p1, d1, y1, u1⟩ := t
      unfold txnV at C
      simp only at e0 e1 e2 e3 e4 e5 e6
      by_cases hlK : k < K.length
      · have hz' : ¬ z < z1 := by have hz : z1 ≤ z := hat.1 hlK; omega
        clear hat
        go_wp2_with fail
        refine (C _).mono ?_
        rintro e w1 ⟨rfl, hb1⟩
        have HB3 := hide (below_next2 (unhide (HB2 _)) hb1)
        clear C hb1 HB2 e0 e1 e2 e3 e4 e5 e6
        go_wp2_with fail
        go_roundg (ts.length - (k + 1))
        case measure => omega
        case rel => exact ⟨k + 1, N + R.length, by simp, by simp, by omega, Nat.le_refl _, hide (by rw [unhide HL, recsL_snoc, List.length_append, unhide HN, unhide HR]), HB3⟩
      · have hz' : z < z1 := hat.2 (by omega)
        have hN2 : (recsL K).length = N := by rw [← (unhide HK).1, show K.length = k from by omega]; exact unhide HN
        have HN2 := hide hN2
        clear hat hN2 C
        go_wp2_with fail
        go_ret
        exact ⟨ret_n (unhide HN2).symm, unhide (HB2 _)⟩
    · have hki : ¬ ((k : Int) < (ts.length : Int)) := by omega
      have hN2 : (recsL K).length = N := by rw [← (unhide HK).1, show K.length = k from by omega]; exact unhide HN
      have HN2 := hide hN2
      clear hN2
      go_wp2_with fail
      go_ret
      exact ⟨ret_n (unhide HN2).symm, unhide HB⟩
end Go.Proofs.YthkggmmalffcdaaGreatDoor
