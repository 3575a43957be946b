/-
  aviaryref.Follow, where it goes on: the walk.
-/
import Derived.Test.YthkggmmalffcdaaGreatDoorSFU
namespace Go.Proofs.YthkggmmalffcdaaGreatDoor
open Go.RowKit

theorem OwnS.cap {α : Type} [Lay α] {W : World} {B n c : Nat} {a : Option Addr} {xs : List α} (h : OwnS W B (.slice a n c) xs) : xs.length ≤ c := by
  rcases h with ⟨h1, h2⟩ | ⟨g, cap, h1, _, h2⟩
  · subst h2; simp
  · simp only [Value.slice.injEq] at h1
    obtain ⟨_, _, rfl⟩ := h1
    exact h2.le

/-- the box of the server that grows, the result's behind it -/
def RF (w W : World) (s : Sv) : Prop := ∃ ad nd cd al nl cl an nn cn ai ni ci aw nw cw, CB w W s.up (.slice ad nd cd) s.id s.ep (.slice al nl cl) s.dn s.tr.z (.slice an nn cn) (.slice ai ni ci) (.slice aw nw cw) ∧ Away (.slice ai ni ci) (w.heap.size + 1) ∧
  SvV W (.agg #[.bool s.up, .slice ad nd cd, .int .i64 s.id, .int .i64 s.ep, .slice al nl cl, .int .i64 s.dn, .int .i64 s.tr.z, .slice an nn cn, .slice ai ni ci, .slice aw nw cw]) s
theorem RF.next {w W V : World} {s : Sv} (h : RF w W s) (hb : Below W.heap.size W V) : RF w V s := by
  obtain ⟨ad, nd, cd, al, nl, cl, an, nn, cn, ai, ni, ci, aw, nw, cw, h1, h3, h2⟩ := h
  exact ⟨ad, nd, cd, al, nl, cl, an, nn, cn, ai, ni, ci, aw, nw, cw, h1.next hb, h3, h2.next hb⟩
theorem LogV.take {w : World} {a : Option Addr} {c k : Nat} {ts : List WTxn} (h : LogV w (.slice a ts.length c) ts) (hk : k ≤ ts.length) : LogV w (.slice a k c) (ts.take k) := by
  rcases h with ⟨a', cap, e, rfl, hc⟩ | ⟨b, off, cap, e, h1, h2, h3, h0, h4⟩
  · simp only [Value.slice.injEq] at e
    obtain ⟨rfl, _, rfl⟩ := e
    obtain rfl : k = 0 := by simpa using hk
    exact .inl ⟨a, c, rfl, by simp, hc⟩
  · simp only [Value.slice.injEq] at e
    obtain ⟨rfl, _, rfl⟩ := e
    by_cases k0 : k = 0
    · subst k0
      exact .inl ⟨_, c, rfl, by simp, h2⟩
    · have hl : (ts.take k).length = k := by simp; omega
      refine .inr ⟨b, off, c, by rw [hl], by omega, h2, h3, by intro e; rw [e] at hl; simp at hl; omega, fun j v hj => h4 j v ?_⟩
      have e : ts = ts.take k ++ ts.drop k := (List.take_append_drop k ts).symm
      rw [e, cellsT_append, List.getElem?_append_left (List.getElem?_eq_some_iff.1 hj).1]
      exact hj
theorem CB.put10 {w W : World} {up0 : Bool} {id0 ep0 dn0 z0 : Int} {vd0 vl0 vn0 vs0 vw0 : Value} (h : CB w W up0 vd0 id0 ep0 vl0 dn0 z0 vn0 vs0 vw0) (up : Bool) (id ep dn z : Int) (vd vl vn vs vw : Value) :
    CB w (Go.Proofs.YthkggmmalffcdaaGreatDoor.put10 W w.heap.size (.bool up) vd (.int .i64 id) (.int .i64 ep) vl (.int .i64 dn) (.int .i64 z) vn vs vw) up vd id ep vl dn z vn vs vw := by
  refine ⟨put10_below h.below (Nat.le_refl _) _ _ _ _ _ _ _ _ _ _, ?_, ?_⟩
  · unfold Box10 Go.Proofs.YthkggmmalffcdaaGreatDoor.put10
    have e0 : ((W).setCell ⟨w.heap.size, 0, none⟩ (.bool up)).heap[w.heap.size]? = some (.cells #[.bool up, vd0, .int .i64 id0, .int .i64 ep0, vl0, .int .i64 dn0, .int .i64 z0, vn0, vs0, vw0] 34 (0, 0)) := block_set (j := 0) (.bool up) h.s
    have e1 : (((W).setCell ⟨w.heap.size, 0, none⟩ (.bool up)).setCell ⟨w.heap.size, 1, none⟩ (vd)).heap[w.heap.size]? = some (.cells #[.bool up, vd, .int .i64 id0, .int .i64 ep0, vl0, .int .i64 dn0, .int .i64 z0, vn0, vs0, vw0] 34 (0, 0)) := block_set (j := 1) (vd) e0
    have e2 : ((((W).setCell ⟨w.heap.size, 0, none⟩ (.bool up)).setCell ⟨w.heap.size, 1, none⟩ (vd)).setCell ⟨w.heap.size, 2, none⟩ (.int .i64 id)).heap[w.heap.size]? = some (.cells #[.bool up, vd, .int .i64 id, .int .i64 ep0, vl0, .int .i64 dn0, .int .i64 z0, vn0, vs0, vw0] 34 (0, 0)) := block_set (j := 2) (.int .i64 id) e1
    have e3 : (((((W).setCell ⟨w.heap.size, 0, none⟩ (.bool up)).setCell ⟨w.heap.size, 1, none⟩ (vd)).setCell ⟨w.heap.size, 2, none⟩ (.int .i64 id)).setCell ⟨w.heap.size, 3, none⟩ (.int .i64 ep)).heap[w.heap.size]? = some (.cells #[.bool up, vd, .int .i64 id, .int .i64 ep, vl0, .int .i64 dn0, .int .i64 z0, vn0, vs0, vw0] 34 (0, 0)) := block_set (j := 3) (.int .i64 ep) e2
    have e4 : ((((((W).setCell ⟨w.heap.size, 0, none⟩ (.bool up)).setCell ⟨w.heap.size, 1, none⟩ (vd)).setCell ⟨w.heap.size, 2, none⟩ (.int .i64 id)).setCell ⟨w.heap.size, 3, none⟩ (.int .i64 ep)).setCell ⟨w.heap.size, 4, none⟩ (vl)).heap[w.heap.size]? = some (.cells #[.bool up, vd, .int .i64 id, .int .i64 ep, vl, .int .i64 dn0, .int .i64 z0, vn0, vs0, vw0] 34 (0, 0)) := block_set (j := 4) (vl) e3
    have e5 : (((((((W).setCell ⟨w.heap.size, 0, none⟩ (.bool up)).setCell ⟨w.heap.size, 1, none⟩ (vd)).setCell ⟨w.heap.size, 2, none⟩ (.int .i64 id)).setCell ⟨w.heap.size, 3, none⟩ (.int .i64 ep)).setCell ⟨w.heap.size, 4, none⟩ (vl)).setCell ⟨w.heap.size, 5, none⟩ (.int .i64 dn)).heap[w.heap.size]? = some (.cells #[.bool up, vd, .int .i64 id, .int .i64 ep, vl, .int .i64 dn, .int .i64 z0, vn0, vs0, vw0] 34 (0, 0)) := block_set (j := 5) (.int .i64 dn) e4
    have e6 : ((((((((W).setCell ⟨w.heap.size, 0, none⟩ (.bool up)).setCell ⟨w.heap.size, 1, none⟩ (vd)).setCell ⟨w.heap.size, 2, none⟩ (.int .i64 id)).setCell ⟨w.heap.size, 3, none⟩ (.int .i64 ep)).setCell ⟨w.heap.size, 4, none⟩ (vl)).setCell ⟨w.heap.size, 5, none⟩ (.int .i64 dn)).setCell ⟨w.heap.size, 6, none⟩ (.int .i64 z)).heap[w.heap.size]? = some (.cells #[.bool up, vd, .int .i64 id, .int .i64 ep, vl, .int .i64 dn, .int .i64 z, vn0, vs0, vw0] 34 (0, 0)) := block_set (j := 6) (.int .i64 z) e5
    have e7 : (((((((((W).setCell ⟨w.heap.size, 0, none⟩ (.bool up)).setCell ⟨w.heap.size, 1, none⟩ (vd)).setCell ⟨w.heap.size, 2, none⟩ (.int .i64 id)).setCell ⟨w.heap.size, 3, none⟩ (.int .i64 ep)).setCell ⟨w.heap.size, 4, none⟩ (vl)).setCell ⟨w.heap.size, 5, none⟩ (.int .i64 dn)).setCell ⟨w.heap.size, 6, none⟩ (.int .i64 z)).setCell ⟨w.heap.size, 7, none⟩ (vn)).heap[w.heap.size]? = some (.cells #[.bool up, vd, .int .i64 id, .int .i64 ep, vl, .int .i64 dn, .int .i64 z, vn, vs0, vw0] 34 (0, 0)) := block_set (j := 7) (vn) e6
    have e8 : ((((((((((W).setCell ⟨w.heap.size, 0, none⟩ (.bool up)).setCell ⟨w.heap.size, 1, none⟩ (vd)).setCell ⟨w.heap.size, 2, none⟩ (.int .i64 id)).setCell ⟨w.heap.size, 3, none⟩ (.int .i64 ep)).setCell ⟨w.heap.size, 4, none⟩ (vl)).setCell ⟨w.heap.size, 5, none⟩ (.int .i64 dn)).setCell ⟨w.heap.size, 6, none⟩ (.int .i64 z)).setCell ⟨w.heap.size, 7, none⟩ (vn)).setCell ⟨w.heap.size, 8, none⟩ (vs)).heap[w.heap.size]? = some (.cells #[.bool up, vd, .int .i64 id, .int .i64 ep, vl, .int .i64 dn, .int .i64 z, vn, vs, vw0] 34 (0, 0)) := block_set (j := 8) (vs) e7
    have e9 : (((((((((((W).setCell ⟨w.heap.size, 0, none⟩ (.bool up)).setCell ⟨w.heap.size, 1, none⟩ (vd)).setCell ⟨w.heap.size, 2, none⟩ (.int .i64 id)).setCell ⟨w.heap.size, 3, none⟩ (.int .i64 ep)).setCell ⟨w.heap.size, 4, none⟩ (vl)).setCell ⟨w.heap.size, 5, none⟩ (.int .i64 dn)).setCell ⟨w.heap.size, 6, none⟩ (.int .i64 z)).setCell ⟨w.heap.size, 7, none⟩ (vn)).setCell ⟨w.heap.size, 8, none⟩ (vs)).setCell ⟨w.heap.size, 9, none⟩ (vw)).heap[w.heap.size]? = some (.cells #[.bool up, vd, .int .i64 id, .int .i64 ep, vl, .int .i64 dn, .int .i64 z, vn, vs, vw] 34 (0, 0)) := block_set (j := 9) (vw) e8
    exact e9
  · unfold Go.Proofs.YthkggmmalffcdaaGreatDoor.put10
    exact (Box10.other (Box10.other (Box10.other (Box10.other (Box10.other (Box10.other (Box10.other (Box10.other (Box10.other (Box10.other h.r (by omega)) (by omega)) (by omega)) (by omega)) (by omega)) (by omega)) (by omega)) (by omega)) (by omega)) (by omega))
theorem LogV.drop {w : World} {a : Option Addr} {c k : Nat} {l : List WTxn} (h : LogV w (.slice a l.length c) l) (hk : k ≤ l.length) :
    (c = k → LogV w (.slice a (l.length - k) 0) (l.drop k)) ∧ (c ≠ k → LogV w (.slice (Option.map (fun x => x.add (k * 7)) a) (l.length - k) (c - k)) (l.drop k)) := by
  have hlen : (l.drop k).length = l.length - k := by simp
  rcases h with ⟨a', cap, e, rfl, hc⟩ | ⟨b, off, cap, e, h1, h2, h3, h0, h4⟩
  · simp only [Value.slice.injEq] at e
    obtain ⟨rfl, _, rfl⟩ := e
    exact ⟨fun _ => .inl ⟨a, 0, by simp, by simp, Nat.zero_le _⟩, fun _ => .inl ⟨Option.map (fun x => x.add (k * 7)) a, c - k, by simp, by simp, by omega⟩⟩
  · simp only [Value.slice.injEq] at e
    obtain ⟨rfl, _, rfl⟩ := e
    by_cases hd : l.drop k = []
    · have h0' : l.length - k = 0 := by rw [← hlen, hd]; rfl
      exact ⟨fun _ => .inl ⟨_, _, by rw [h0'], hd, by simp⟩, fun _ => .inl ⟨_, _, by rw [h0'], hd, by omega⟩⟩
    · have hlt : 0 < l.length - k := by rw [← hlen]; exact List.length_pos_iff.2 hd
      refine ⟨fun e => by omega, fun _ => .inr ⟨b, off + k * 7, c - k, by rw [hlen, Option.map_some, Addr.add_lit], by omega, by omega, h3, hd, fun j v hj => ?_⟩⟩
      have e : cellsT l = cellsT (l.take k) ++ cellsT (l.drop k) := by rw [← cellsT_append, List.take_append_drop]
      have hl7 : (cellsT (l.take k)).length = k * 7 := by rw [cellsT_length]; simp; omega
      have := h4 (k * 7 + j) v (by rw [e, List.getElem?_append_right (by omega), hl7, Nat.add_sub_cancel_left]; exact hj)
      rwa [← Nat.add_assoc] at this
theorem CB.putE {w W : World} {up : Bool} {id ep dn z : Int} {vd vl vn vs vw : Value} (h : CB w W up vd id ep vl dn z vn vs vw) (e : Int) : CB w (W.setCell ⟨w.heap.size, 3, none⟩ (.int .i64 e)) up vd id e vl dn z vn vs vw := by
  refine ⟨h.below.setCell (by simp) _, ?_, h.r.other (by omega)⟩
  unfold Box10
  rw [block_set (.int .i64 e) h.s]
  rfl
theorem rf_start {w P : World} {s : Sv} {ts : List WTxn} {k : Nat} {vd : Value} {ad al an ai aw : Option Addr} {nd cd cl nn cn ni ci nw cw B : Nat} {ep0 : Int} (h : CB w P s.up vd s.id ep0 (.slice al ts.length cl) s.dn s.tr.z (.slice an nn cn) (.slice ai ni ci) (.slice aw nw cw)) (hd : DiskV P (.slice ad nd cd) s.fs) (hl : LogV P (.slice al ts.length cl) ts) (hk : k ≤ ts.length) (hn : SeqV P (.slice an nn cn) s.tr.ns) (hi : OwnS P B (.slice ai ni ci) s.tr.ss) (hB : w.heap.size + 1 < B) (hw : SeqV P (.slice aw nw cw) s.ws) (hs : s.ts = ts.take k) (hdu : Dumb P w.heap.size) :
    RF w (((P.setCell ⟨w.heap.size, 1, none⟩ (.slice ad nd cd)).setCell ⟨w.heap.size, 3, none⟩ (.int .i64 s.ep)).setCell ⟨w.heap.size, 4, none⟩ (.slice al k cl)) s := by
  have u1 : Dumb (P.setCell ⟨w.heap.size, 1, none⟩ (.slice ad nd cd)) w.heap.size := hdu.set (by simp)
  have u2 : Dumb ((P.setCell ⟨w.heap.size, 1, none⟩ (.slice ad nd cd)).setCell ⟨w.heap.size, 3, none⟩ (.int .i64 s.ep)) w.heap.size := u1.set (by simp)
  refine ⟨ad, nd, cd, al, k, cl, an, nn, cn, ai, ni, ci, aw, nw, cw, ((h.put 1 (.slice ad nd cd) rfl).putE s.ep).put 4 (.slice al k cl) rfl, away_own hi hB, _, _, _, _, _, rfl, disk_dumb (disk_dumb (disk_dumb hd hdu _) u1 _) u2 _, ?_, nodes_dumb (nodes_dumb (nodes_dumb hn hdu _) u1 _) u2 _, (own_set (own_set (own_set hi (by omega)) (by omega)) (by omega)).seq, watches_dumb (watches_dumb (watches_dumb hw hdu _) u1 _) u2 _⟩
  rw [hs]
  exact log_dumb (log_dumb (log_dumb (hl.take hk) hdu _) u1 _) u2 _

set_option maxRecDepth 20000 in
set_option maxHeartbeats 4000000 in
theorem rfol_main (s : Sv) (v : Value) (vl : Value) (l : List WTxn) (epo : Int) (w : World) (hv : SvV w v s) (hvl : LogV w vl l) (hf : Fits s) (hll : l.length ≤ 1000000000) (ht : TabP w) (hk : ¬ (comN s.ts l : Int) < s.dn) (z : Int) (d2 d3 : List DF) (hz : FolZ l (comN s.ts l) z) (G : GivesD 33 (fun g => #[g, .int .i64 z]) s.fs d2 0) (R : GivesE 34 (fun g => #[g, .int .i64 epo]) d2 d3 0) (st : Nat → Sv) (h0 : st 0 = ⟨s.up, d3, s.id, epo, s.ts.take (comN s.ts l), s.dn, s.tr, s.ws⟩) (HT : ∀ i x, (l.drop (comN s.ts l))[i]? = some x → ∀ v W, SvV W v (st i) → Calls Tryz.prog 35 #[v, txnV x, .bool true] W (GivesVF W (st (i + 1)) 0)) :
    Calls Tryz.prog 12 #[v, vl, .int .i64 epo] w (GivesV w (st (l.drop (comN s.ts l)).length) 0) := by
  have CY := hide (fun W (hW : Below w.heap.size w W) => rcopyS_any s v W (hv.next hW) hf)
  obtain ⟨ad, nd, cd, al, cl, an, cn, ai, ci, aw, cw, rfl, d1, l1, n1, s1, k1⟩ := hv.five
  have CC := hide (fun W (hW : Below w.heap.size w W) => by have h := rcommon_any vl _ l s.ts W (hvl.next hW) (l1.next hW) (by omega) (by have := hf.l; omega); rw [comN_comm] at h; exact h)
  have HG := hide (fun W (hW : Below w.heap.size w W) => G _ W (d1.next hW))
  have HLR := hide (fun (j : Nat) (x : WTxn) (hx : l[j]? = some x) W (hW : Below w.heap.size w W) => log_row (hvl.next hW) hx)
  obtain ⟨lb, lc, rfl⟩ := log_slice hvl
  have HR := hide R
  have HTK := hide HT
  have HLV := hide (fun W (hW : Below w.heap.size w W) => hvl.next hW)
  have HTab := hide (fun W (hW : Below w.heap.size w W) => ht.next hW)
  clear hv d1 l1 n1 s1 k1 hvl hf G R ht HT
  obtain ⟨up, fs, id, ep, ts, dn, ⟨tz, tns, tss⟩, ws⟩ := s
  simp only at *
  go_enter Tryz.func12, Tryz.ntmps12
  go_wp2_with fail
  have X0 := hide (CB.start w up id ep dn tz (.slice ad nd cd) (.slice al ts.length cl) (.slice an tns.length cn) (.slice ai tss.length ci) (.slice aw ws.length cw))
  generalize (w.alloc (.cells #[.bool up, .slice ad nd cd, .int .i64 id, .int .i64 ep, .slice al ts.length cl, .int .i64 dn, .int .i64 tz, .slice an tns.length cn, .slice ai tss.length ci, .slice aw ws.length cw] 34)).alloc (.cells #[.bool false, .slice none 0 0, .int .i64 0, .int .i64 0, .slice none 0 0, .int .i64 0, .int .i64 0, .slice none 0 0, .slice none 0 0, .slice none 0 0] 34) = W0 at *
  refine (unhide CC _ (unhide X0).below).mono ?_
  rintro e w1 ⟨rfl, hb1⟩
  have X1 := hide ((unhide X0).next hb1)
  have x5 := (unhide X1).s.cells.2.2.2.2.2.1
  clear hb1 X0 CC
  have x1 := (unhide X1).s.cells.2.1
  have hkl := (comN_le ts l).2
  have hkt := (comN_le ts l).1
  generalize comN ts l = k at *
  have hnk : ¬ ((k : Int) < dn) := by omega
  go_upto_if 26 with fail
  go_cut [9] from 14 (fun t9 wx => t9 = .int .i64 z ∧ wx = w1)
  case first =>
    rcases hz with ⟨rfl, rfl⟩ | ⟨x, hk0, hx, rfl⟩
    · go_wp2_with fail
      go_meet
      exact ⟨rfl, rfl⟩
    · obtain ⟨m, rfl⟩ : ∃ m, k = m + 1 := ⟨k - 1, by omega⟩
      simp only [Nat.add_sub_cancel] at hx
      obtain ⟨b, o, c, he, hb, q, hm1, _⟩ := unhide HLR m x hx w1 (unhide X1).below
      simp only [Value.slice.injEq] at he
      obtain ⟨rfl, _, rfl⟩ := he
      have e0 := q.z hx
      generalize x.z = z at *
      have i1 : (m : Int) < (l.length : Int) := by omega
      have i2 : (0 : Int) < ((m + 1 : Nat) : Int) := by omega
      have i3 : IntKind.i64.wrap (((m + 1 : Nat) : Int) - 1) = (m : Int) := by rw [IntKind.wrap_i64]; omega
      have i4 : (((m + 1 : Nat) : Int) - 1) = (m : Int) := by omega
      clear q hx
      go_wp2_with fail
      go_meet
      exact ⟨rfl, rfl⟩
  case rest =>
    obtain ⟨rfl, rfl⟩ := hcut
    clear HLR
    go_wp2_with fail
    refine (unhide HG _ (unhide X1).below).mono ?_
    rintro e w2 ⟨a2, n2, c2, rfl, D2, hb2⟩
    have hal := allocB w2 (.cells #[.slice a2 n2 c2] 24)
    have X2 := hide (((unhide X1).next hb2).next hal)
    have A2 := hide (BoxAt.new w2 (.slice a2 n2 c2))
    have F2 := hide ((unhide D2).next hal)
    have Q2 := hide (show w.heap.size + 2 ≤ w2.heap.size from ((unhide X1).next hb2).lt)
    clear hb2 hal X1 D2 HG x1 x5
    have ca := (unhide A2).c
    have fa := (unhide A2).f
    go_wp2_with fail
    generalize w2.heap.size = q2 at *
    generalize w2.alloc (.cells #[.slice a2 n2 c2] 24) = W2 at *
    refine (unhide HR _ _ (unhide HTab _ (unhide X2).below) (unhide F2)).mono ?_
    rintro e w3 ⟨a3, n3, c3, rfl, D3, hb3⟩
    have X3 := (unhide X2).next hb3
    have A3 := (unhide A2).next hb3
    have ca3 := A3.c
    have fa3 := A3.f
    have Y3 := X3.dput q2 (.slice a3 n3 c3) (by have := unhide Q2; omega)
    have E3 := disk_box (unhide D3) A3 (.slice a3 n3 c3)
    have B3 := A3.set (.slice a3 n3 c3)
    have HX3 := hide Y3
    have HD3 := hide E3
    have HA3 := hide B3
    clear hb3 X2 A2 F2 D3 X3 A3 Y3 E3 B3 HR ca fa
    go_upto_region 13 with fail
    generalize w3.setCell ⟨q2, 0, none⟩ (.slice a3 n3 c3) = W3 at *
    clear ca3 fa3
    obtain ⟨x0, x1, x2, x3, x4, x5, x6, x7, x8, x9⟩ := (unhide HX3).s.cells
    go_wp2_with fail
    refine (unhide CY _ (unhide HX3).below).mono ?_
    rintro e w4 ⟨bd, md, fd, bl, fl, bn, fn, bi, fi, bw, fw, B1, B2, rfl, h1, h2, od, hd1, ol, hl2, on, oi, ow, hb4⟩
    have X4 := (unhide HX3).next hb4
    have A4 := (unhide HA3).next hb4
    have D4 := (unhide HD3).next hb4
    have z3 := (unhide HX3).lt
    clear x0 x1 x2 x3 x4 x5 x6 x7 x8 x9
    obtain ⟨x0, x1, x2, x3, x4, x5, x6, x7, x8, x9⟩ := X4.s.cells
    have xf0 := X4.s.froz 0
    have xf1 := X4.s.froz 1
    have xf2 := X4.s.froz 2
    have xf3 := X4.s.froz 3
    have xf4 := X4.s.froz 4
    have xf5 := X4.s.froz 5
    have xf6 := X4.s.froz 6
    have xf7 := X4.s.froz 7
    have xf8 := X4.s.froz 8
    have xf9 := X4.s.froz 9
    go_upto_region 14 with fail
    obtain ⟨P4, hP4⟩ : ∃ P, P = put10 w4 w.heap.size (.bool up) (.slice bd md fd) (.int .i64 id) (.int .i64 ep) (.slice bl ts.length fl) (.int .i64 dn) (.int .i64 tz) (.slice bn tns.length fn) (.slice bi tss.length fi) (.slice bw ws.length fw) := ⟨_, rfl⟩
    rw [show ((((((((((w4).setCell ⟨w.heap.size, 0, none⟩ (.bool up)).setCell ⟨w.heap.size, 1, none⟩ (.slice bd md fd)).setCell ⟨w.heap.size, 2, none⟩ (.int .i64 id)).setCell ⟨w.heap.size, 3, none⟩ (.int .i64 ep)).setCell ⟨w.heap.size, 4, none⟩ (.slice bl ts.length fl)).setCell ⟨w.heap.size, 5, none⟩ (.int .i64 dn)).setCell ⟨w.heap.size, 6, none⟩ (.int .i64 tz)).setCell ⟨w.heap.size, 7, none⟩ (.slice bn tns.length fn)).setCell ⟨w.heap.size, 8, none⟩ (.slice bi tss.length fi)).setCell ⟨w.heap.size, 9, none⟩ (.slice bw ws.length fw) = P4 from hP4.symm]
    have X5 : CB w P4 up (.slice bd md fd) id ep (.slice bl ts.length fl) dn tz (.slice bn tns.length fn) (.slice bi tss.length fi) (.slice bw ws.length fw) := by rw [hP4]; exact ((((((((((X4.put 0 (.bool up) rfl).put 1 (.slice bd md fd) rfl).put 2 (.int .i64 id) rfl).put 3 (.int .i64 ep) rfl).put 4 (.slice bl ts.length fl) rfl).put 5 (.int .i64 dn) rfl).put 6 (.int .i64 tz) rfl).put 7 (.slice bn tns.length fn) rfl).put 8 (.slice bi tss.length fi) rfl).put 9 (.slice bw ws.length fw) rfl)
    have F5 : DiskV P4 (.slice a3 n3 c3) d3 := by rw [hP4]; exact put10_disk X4.s.dumb D4
    have A5 : BoxAt P4 q2 (.slice a3 n3 c3) := by rw [hP4]; exact put10_box A4 (by have := unhide Q2; omega) _ _ _ _ _ _ _ _ _ _
    have o5 : ∀ {α : Type} [Lay α] {B : Nat} {v : Value} {xs : List α}, OwnS w4 B v xs → W3.heap.size ≤ B → OwnS P4 B v xs := by
      intro α _ B v xs ho hB
      rw [hP4]
      exact own_put10 ho (by omega) _ _ _ _ _ _ _ _ _ _
    have HOL := hide (o5 ol h1)
    have HON := hide (o5 on (by omega))
    have HOI := hide (o5 oi (by omega))
    have HOW := hide (o5 ow (by omega))
    have hcap := ol.cap
    clear hP4 o5 od hd1 ol on oi ow X4 A4 D4 hb4 HX3 HA3 HD3 CY x0 x1 x2 x3 x4 x5 x6 x7 x8 x9 xf0 xf1 xf2 xf3 xf4 xf5 xf6 xf7 xf8 xf9
    have ca5 := A5.c
    have x4 := X5.s.cells.2.2.2.2.1
    have x1 := X5.s.cells.2.1
    have x3 := X5.s.cells.2.2.2.1
    have xf1 := X5.s.froz 1
    have xf3 := X5.s.froz 3
    have xf4 := X5.s.froz 4
    have hnq : q2 ≠ w.heap.size := by have := unhide Q2; omega
    have k0 : (0 : Int) ≤ (k : Int) := by omega
    have k1 : (k : Int) ≤ (fl : Int) := by omega
    have k2 : k ≤ fl := by omega
    have RF4 := hide (rf_start (s := ⟨up, d3, id, epo, ts.take k, dn, ⟨tz, tns, tss⟩, ws⟩) X5 F5 (seq_log.1 (unhide HOL).seq) (by omega : k ≤ ts.length) (unhide HON).seq (unhide HOI) (by omega) (unhide HOW).seq rfl X5.s.dumb)
    go_cut [12] from 14 (fun _ wx => Hid (RF w wx ⟨up, d3, id, epo, ts.take k, dn, ⟨tz, tns, tss⟩, ws⟩))
    case first =>
      go_region
      all_goals go_wp2_with fail
      all_goals go_meet
      all_goals exact hide ((unhide RF4).next (Below.refl _ _).drew)
    case rest =>
      have HRF := hcut
      clear hcut
      clear RF4 ca5 x4 x1 x3 xf1 xf3 xf4 X5 F5 A5 HOL HON HOI HOW
      go_upto_region 15 with fail
      go_cut [70, 71, 72] from 14 (fun t70 t71 t72 wx => ∃ la lcc, t70 = .slice la (l.length - k) lcc ∧ t71 = .int .i64 ((l.length - k : Nat) : Int) ∧ t72 = .int .i64 0 ∧ wx = wc ∧ Hid (∀ W, Below w.heap.size w W → LogV W (.slice la (l.length - k) lcc) (l.drop k)))
      case first =>
        by_cases hlc : lc = k
        · subst hlc
          go_wp2_with fail
          all_goals go_meet
          all_goals exact ⟨_, _, rfl, rfl, rfl, rfl, hide fun W hW => ((unhide HLV W hW).drop hkl).1 rfl⟩
        · go_wp2_with fail
          all_goals go_meet
          all_goals exact ⟨_, _, rfl, rfl, rfl, rfl, hide fun W hW => ((unhide HLV W hW).drop hkl).2 hlc⟩
      case rest =>
        obtain ⟨la, lcc, rfl, rfl, rfl, rfl, HLD⟩ := hcut
        clear HLV hcap hnq k0 k1 k2 h1 h2 hl2 z3 hkt
        go_wp2_with fail
        go_loopg [72] (l.length - k) (fun kx s72 wr => ∃ i : Nat, s72 = .int .i64 i ∧ i ≤ l.length - k ∧ l.length - k - i ≤ kx ∧ Hid (RF w wr (st i)))
        case atStart => exact ⟨0, rfl, Nat.zero_le _, by omega, hide (by rw [h0]; exact unhide HRF)⟩
        case round =>
          obtain ⟨i, rfl, hi, hgi, hR⟩ := hrel
          by_cases hlt : i < l.length - k
          · clear h0 HRF
            obtain ⟨x, hx⟩ : ∃ x, (l.drop k)[i]? = some x := ⟨_, List.getElem?_eq_getElem (by simp; omega)⟩
            obtain ⟨aad, and, acd, aal, anl, acl, aan, ann, acn, aai, ani, aci, aaw, anw, acw, CBi, AWi, SVi⟩ := unhide hR
            obtain ⟨b, o, c, he, hb, q, hq9⟩ := log_row (unhide HLD wr CBi.below) hx
            simp only [Value.slice.injEq] at he
            obtain ⟨rfl, he2, rfl⟩ := he
            clear he2 hq9
            have d0 := q.z hx
            have d1 := q.o hx
            have d2 := q.s hx
            have d3' := q.p hx
            have d4 := q.d hx
            have d5 := q.v hx
            have d6 := q.w hx
            have CT := hide (unhide HTK i x hx)
            obtain ⟨xz, xo, xs, xp, xd, xv, xw⟩ := x
            unfold txnV at CT
            simp only at d0 d1 d2 d3' d4 d5 d6 CT
            have hlti : (i : Int) < ((l.length - k : Nat) : Int) := by omega
            have hal := allocB wr (.cells #[.int .i64 xz, .int .i64 xo, .int .i64 xs, .string ⟨xp.toArray⟩, .string ⟨xd.toArray⟩, .int .i64 xv, .int .i64 xw] 48)
            have X6 := hide (CBi.next hal)
            have S6 := hide (SVi.next hal)
            obtain ⟨x0, x1, x2, x3, x4, x5, x6, x7, x8, x9⟩ := (unhide X6).s.cells
            clear q hx hal CBi SVi AWi hR
            go_wp2_with fail
            generalize wr.alloc (.cells #[.int .i64 xz, .int .i64 xo, .int .i64 xs, .string ⟨xp.toArray⟩, .string ⟨xd.toArray⟩, .int .i64 xv, .int .i64 xw] 48) = W6 at *
            refine (unhide CT _ _ (unhide S6)).mono ?_
            rintro e w7 ⟨gad, gnd, gcd, gal, gnl, gcl, gan, gnn, gcn, gai, gni, gci, gaw, gnw, gcw, rfl, S7, hb7⟩
            have X7 := (unhide X6).next hb7
            have z7 := (unhide X6).lt
            have Y7 := X7.put10 (st (i + 1)).up (st (i + 1)).id (st (i + 1)).ep (st (i + 1)).dn (st (i + 1)).tr.z (.slice gad gnd gcd) (.slice gal gnl gcl) (.slice gan gnn gcn) (.slice gai gni gci) (.slice gaw gnw gcw)
            have V7 : SvV (put10 w7 w.heap.size (.bool (st (i + 1)).up) (.slice gad gnd gcd) (.int .i64 (st (i + 1)).id) (.int .i64 (st (i + 1)).ep) (.slice gal gnl gcl) (.int .i64 (st (i + 1)).dn) (.int .i64 (st (i + 1)).tr.z) (.slice gan gnn gcn) (.slice gai gni gci) (.slice gaw gnw gcw)) (.agg #[.bool (st (i + 1)).up, .slice gad gnd gcd, .int .i64 (st (i + 1)).id, .int .i64 (st (i + 1)).ep, .slice gal gnl gcl, .int .i64 (st (i + 1)).dn, .int .i64 (st (i + 1)).tr.z, .slice gan gnn gcn, .slice gai gni gci, .slice gaw gnw gcw]) (st (i + 1)) := by
              obtain ⟨vd, vl, vn, vs, vw, e, h1, h2, h3, h4, h5⟩ := (unhide S7).1
              simp only [Value.agg.injEq, Array.mk.injEq, List.cons.injEq] at e
              obtain ⟨_, rfl, _, _, rfl, _, _, rfl, rfl, rfl, _⟩ := e
              exact put10_new (s := st (i + 1)) X7.s.dumb h1 h2 h3 h4 ((unhide S7).2.away (by omega)) h5
            have RF7 : Hid (RF w (put10 w7 w.heap.size (.bool (st (i + 1)).up) (.slice gad gnd gcd) (.int .i64 (st (i + 1)).id) (.int .i64 (st (i + 1)).ep) (.slice gal gnl gcl) (.int .i64 (st (i + 1)).dn) (.int .i64 (st (i + 1)).tr.z) (.slice gan gnn gcn) (.slice gai gni gci) (.slice gaw gnw gcw)) (st (i + 1))) := hide ⟨gad, gnd, gcd, gal, gnl, gcl, gan, gnn, gcn, gai, gni, gci, gaw, gnw, gcw, Y7, (unhide S7).2.away (by omega), V7⟩
            clear x0 x1 x2 x3 x4 x5 x6 x7 x8 x9
            obtain ⟨x0, x1, x2, x3, x4, x5, x6, x7, x8, x9⟩ := X7.s.cells
            have xf0 := X7.s.froz 0
            have xf1 := X7.s.froz 1
            have xf2 := X7.s.froz 2
            have xf3 := X7.s.froz 3
            have xf4 := X7.s.froz 4
            have xf5 := X7.s.froz 5
            have xf6 := X7.s.froz 6
            have xf7 := X7.s.froz 7
            have xf8 := X7.s.froz 8
            have xf9 := X7.s.froz 9
            clear hb7 Y7 V7 X6 S6 S7 X7 CT d0 d1 d2 d3' d4 d5 d6
            unfold put10 at RF7
            go_wp2_with fail
            go_roundg (l.length - k - (i + 1))
            case measure => omega
            case rel => exact ⟨i + 1, rfl, by omega, Nat.le_refl _, RF7⟩
          · obtain rfl : i = l.length - k := by omega
            obtain ⟨aad, and, acd, aal, anl, acl, aan, ann, acn, aai, ani, aci, aaw, anw, acw, CBi, AWi, SVi⟩ := unhide hR
            obtain ⟨x0, x1, x2, x3, x4, x5, x6, x7, x8, x9⟩ := CBi.s.cells
            obtain ⟨r0, r1, r2, r3, r4, r5, r6, r7, r8, r9⟩ := CBi.r.cells
            have rf0 := CBi.r.froz 0
            have rf1 := CBi.r.froz 1
            have rf2 := CBi.r.froz 2
            have rf3 := CBi.r.froz 3
            have rf4 := CBi.r.froz 4
            have rf5 := CBi.r.froz 5
            have rf6 := CBi.r.froz 6
            have rf7 := CBi.r.froz 7
            have rf8 := CBi.r.froz 8
            have rf9 := CBi.r.froz 9
            have HC := hide (And.intro CBi (And.intro AWi SVi))
            have hdl : (l.drop k).length = l.length - k := by simp
            clear CBi AWi SVi hR
            go_wp2_with fail
            refine bodyPost_ret (v := .tuple #[.agg #[.bool (st (l.length - k)).up, .slice aad and acd, .int .i64 (st (l.length - k)).id, .int .i64 (st (l.length - k)).ep, .slice aal anl acl, .int .i64 (st (l.length - k)).dn, .int .i64 (st (l.length - k)).tr.z, .slice aan ann acn, .slice aai ani aci, .slice aaw anw acw], .int .i64 0]) (by simp [results, Tryz.results12, go_sem, r0, r1, r2, r3, r4, r5, r6, r7, r8, r9]) rfl ?_
            rw [hdl]
            refine ⟨_, rfl, ?_, put10_below (unhide HC).1.below (by omega) _ _ _ _ _ _ _ _ _ _⟩
            obtain ⟨vd, vl, vn, vs, vw, e, h1, h2, h3, h4, h5⟩ := (unhide HC).2.2
            simp only [Value.agg.injEq, Array.mk.injEq, List.cons.injEq] at e
            obtain ⟨_, rfl, _, _, rfl, _, _, rfl, rfl, rfl, _⟩ := e
            exact put10_new (s := st (l.length - k)) (unhide HC).1.r.dumb h1 h2 h3 h4 (unhide HC).2.1 h5

end Go.Proofs.YthkggmmalffcdaaGreatDoor
