/-
  What the laws of trees share: the boxes of a tree and a transaction, what Apply leaves, grows.
  What the laws of prep share: makes.
  RecipeQueue's closure: one request is made ready and done: the walk.
  A line of five sessions, as plain data: a session closes and opens; who holds it; how it begins. No program is named here.
-/
import Derived.Test.YtcplpbelficbeaaGreatDoorRQY
import Derived.Test.YtcplpbelficbeaaGreatDoorRQO
import Derived.Deep.CutRange
import Derived.Deep.RegionHeld3
import Derived.Test.YtcplpbelficbeaaGreatDoorRQV
namespace Go.Proofs.YtcplpbelficbeaaGreatDoor
open Go.RowKit

/-- the boxes of a tree and of a transaction -/
structure TX (W : World) (qt qx : Nat) (z : Int) (vn vs : Value) (x : WTxn) : Prop where
  t : W.heap[qt]? = some (.cells #[.int .i64 z, vn, vs] 26 (0, 0))
  x : TAt W qx x
theorem TX.lt {W : World} {qt qx : Nat} {z : Int} {vn vs : Value} {x : WTxn} (h : TX W qt qx z vn vs x) : qt < W.heap.size ∧ qx < W.heap.size := ⟨(Array.getElem?_eq_some_iff.1 h.t).1, h.x.lt⟩
theorem TX.next {W V : World} {qt qx : Nat} {z : Int} {vn vs : Value} {x : WTxn} (h : TX W qt qx z vn vs x) (hb : Below W.heap.size W V) : TX V qt qx z vn vs x := ⟨(hb.block _ h.lt.1).trans h.t, h.x.next hb⟩
theorem TX.drew {W : World} {qt qx : Nat} {z : Int} {vn vs : Value} {x : WTxn} (h : TX W qt qx z vn vs x) : TX W.drew qt qx z vn vs x := h.next (Below.refl _ _).drew
theorem TX.other {W : World} {qt qx : Nat} {z : Int} {vn vs : Value} {x : WTxn} (h : TX W qt qx z vn vs x) {a : Addr} (v : Value) (h1 : qt ≠ a.block) (h2 : qx ≠ a.block) : TX (W.setCell a v) qt qx z vn vs x :=
  ⟨(Below.heap_setCell W a v qt h1).trans h.t, (Below.heap_setCell W a v qx h2).trans h.x⟩
theorem TX.ten {W : World} {qt qx : Nat} {z : Int} {vn vs : Value} {x : WTxn} (h : TX W qt qx z vn vs x) : W.cell? ⟨qt, 0, none⟩ = some (.int .i64 z) ∧ W.cell? ⟨qt, 1, none⟩ = some vn ∧ W.cell? ⟨qt, 2, none⟩ = some vs ∧ W.cell? ⟨qx, 0, none⟩ = some (.int .i64 x.z) ∧ W.cell? ⟨qx, 1, none⟩ = some (.int .i64 x.o) ∧ W.cell? ⟨qx, 2, none⟩ = some (.int .i64 x.s) ∧ W.cell? ⟨qx, 3, none⟩ = some (.string ⟨x.p.toArray⟩) ∧ W.cell? ⟨qx, 4, none⟩ = some (.string ⟨x.d.toArray⟩) ∧ W.cell? ⟨qx, 5, none⟩ = some (.int .i64 x.v) ∧ W.cell? ⟨qx, 6, none⟩ = some (.int .i64 x.w) := by
  have h1 := h.t
  refine ⟨?_, ?_, ?_, h.x.c0, h.x.c1, h.x.c2, h.x.c3, h.x.c4, h.x.c5, h.x.c6⟩ <;> simp [World.cell?, h1]
theorem TX.new (w : World) (z : Int) (vn vs : Value) (x : WTxn) : TX ((w.alloc (.cells #[.int .i64 z, vn, vs] 26)).alloc (.cells #[.int .i64 x.z, .int .i64 x.o, .int .i64 x.s, .string ⟨x.p.toArray⟩, .string ⟨x.d.toArray⟩, .int .i64 x.v, .int .i64 x.w] 32)) w.heap.size (w.heap.size + 1) z vn vs x := by
  refine ⟨?_, ?_⟩
  · rw [(allocB _ _).block _ (by simp)]
    exact heap_alloc_new w _
  · have h := TAt.new (w.alloc (.cells #[.int .i64 z, vn, vs] 26)) x
    simpa using h
/-- a tree in a box q, with its events: all of the call's own -/
structure AppX (W wx : World) (q : Nat) (t : Tr) (es : List Ev) (vn vs ve : Value) : Prop where
  box : wx.heap[q]? = some (.cells #[.int .i64 t.z, vn, vs] 26 (0, 0))
  n : OwnS wx W.heap.size vn t.ns
  s : OwnS wx W.heap.size vs t.ss
  e : OwnS wx W.heap.size ve es
  qb : W.heap.size ≤ q
  b : Below W.heap.size W wx
theorem AppX.lt {W wx : World} {q : Nat} {t : Tr} {es : List Ev} {vn vs ve : Value} (h : AppX W wx q t es vn vs ve) : q < wx.heap.size := (Array.getElem?_eq_some_iff.1 h.box).1
theorem AppX.next {W wx wy : World} {q : Nat} {t : Tr} {es : List Ev} {vn vs ve : Value} (h : AppX W wx q t es vn vs ve) (hb : Below wx.heap.size wx wy) : AppX W wy q t es vn vs ve :=
  ⟨(hb.block _ h.lt).trans h.box, h.n.next hb, h.s.next hb, h.e.next hb, h.qb, nnext h.b hb⟩
theorem AppX.cells {W wx : World} {q : Nat} {t : Tr} {es : List Ev} {vn vs ve : Value} (h : AppX W wx q t es vn vs ve) : wx.cell? ⟨q, 0, none⟩ = some (.int .i64 t.z) ∧ wx.cell? ⟨q, 1, none⟩ = some vn ∧ wx.cell? ⟨q, 2, none⟩ = some vs := by
  have h1 := h.box
  refine ⟨?_, ?_, ?_⟩ <;> simp [World.cell?, h1]
theorem good_new : GoodT trNew := by
  refine ⟨by decide, ⟨List.Pairwise.nil, by simp [trNew]⟩, ⟨by decide, ⟨nroot, [], rfl, rfl, rfl⟩, List.pairwise_singleton _ _, ?_⟩, ?_⟩
  · intro n hn
    obtain rfl : n = nroot := by simpa [trNew] using hn
    refine ⟨by decide, goodB_root, fun h => absurd rfl h, by decide, by decide, by decide, by decide, by decide, by decide, by decide, by decide, ?_, .inl rfl⟩
    show (0 : Int) = kidsN [nroot] [47]
    simp [kidsN, nroot, dirOf_root]
  · intro n hn
    obtain rfl : n = nroot := by simpa [trNew] using hn
    decide
theorem GoodT.wf {t : Tr} (g : GoodT t) : WfT t := by
  refine ⟨fun s hs => by have := g.ses.2 s hs; omega, fun n hn => ?_⟩
  have k := g.nod.ok n hn
  have := goodB_le k.path
  have := k.data
  omega
end Go.Proofs.YtcplpbelficbeaaGreatDoor

namespace Go.Proofs.YtcplpbelficbeaaGreatDoor
open Go.RowKit

theorem TAt.drew {W : World} {g : Nat} {x : WTxn} (h : TAt W g x) : TAt W.drew g x := h.next (Below.refl _ _).drew
theorem TAt.seven {W : World} {g : Nat} {x : WTxn} (h : TAt W g x) : W.cell? ⟨g, 0, none⟩ = some (.int .i64 x.z) ∧ W.cell? ⟨g, 1, none⟩ = some (.int .i64 x.o) ∧ W.cell? ⟨g, 2, none⟩ = some (.int .i64 x.s) ∧ W.cell? ⟨g, 3, none⟩ = some (.string ⟨x.p.toArray⟩) ∧ W.cell? ⟨g, 4, none⟩ = some (.string ⟨x.d.toArray⟩) ∧ W.cell? ⟨g, 5, none⟩ = some (.int .i64 x.v) ∧ W.cell? ⟨g, 6, none⟩ = some (.int .i64 x.w) := ⟨h.c0, h.c1, h.c2, h.c3, h.c4, h.c5, h.c6⟩
/-- a transaction in a box q of the call's own -/
structure PrX (W wx : World) (q : Nat) (x : WTxn) : Prop where
  box : TAt wx q x
  qb : W.heap.size ≤ q
  b : Below W.heap.size W wx
theorem PrX.next {W wx wy : World} {q : Nat} {x : WTxn} (h : PrX W wx q x) (hb : Below wx.heap.size wx wy) : PrX W wy q x := ⟨h.box.next hb, h.qb, nnext h.b hb⟩
theorem TR.drew {W : World} {q : Nat} {z : Int} {vn vs : Value} {r : Rq} (h : TR W q z vn vs r) : TR W.drew q z vn vs r := h.next (Below.refl _ _).drew
end Go.Proofs.YtcplpbelficbeaaGreatDoor

namespace Go.Proofs.YtcplpbelficbeaaGreatDoor
open Go.RowKit

/-- the boxes of the number and of the tree -/
structure QB (w W : World) (K bz bt : Nat) (z : Int) (C : Tr) (vn vs : Value) : Prop where
  zb : W.heap[bz]? = some (.cells #[.int .i64 z] 3 (0, 0))
  t : W.heap[bt]? = some (.cells #[.int .i64 C.z, vn, vs] 26 (0, 0))
  n : OwnS W w.heap.size vn C.ns
  s : OwnS W w.heap.size vs C.ss
  nz : vn.ownBlock ≠ some bz
  nt : vn.ownBlock ≠ some bt
  sz : vs.ownBlock ≠ some bz
  st : vs.ownBlock ≠ some bt
  hz : w.heap.size ≤ bz ∧ bz < K
  ht : w.heap.size ≤ bt ∧ bt < K
  ne : bz ≠ bt
  kb : K ≤ W.heap.size
  b : Below w.heap.size w W
section
variable {w W V : World} {K bz bt : Nat} {z : Int} {C : Tr} {vn vs : Value}
theorem QB.next (h : QB w W K bz bt z C vn vs) (hb : Below W.heap.size W V) : QB w V K bz bt z C vn vs :=
  ⟨(hb.block _ (by have := h.hz; have := h.kb; omega)).trans h.zb, (hb.block _ (by have := h.ht; have := h.kb; omega)).trans h.t, h.n.next hb, h.s.next hb, h.nz, h.nt, h.sz, h.st, h.hz, h.ht, h.ne, Nat.le_trans h.kb hb.size, nnext h.b hb⟩
theorem QB.cells (h : QB w W K bz bt z C vn vs) : (W.cell? ⟨bz, 0, none⟩ = some (.int .i64 z) ∧ W.cell? ⟨bt, 0, none⟩ = some (.int .i64 C.z) ∧ W.cell? ⟨bt, 1, none⟩ = some vn ∧ W.cell? ⟨bt, 2, none⟩ = some vs) ∧ W.frozen? ⟨bz, 0, none⟩ = false ∧ W.frozen? ⟨bt, 0, none⟩ = false ∧ W.frozen? ⟨bt, 1, none⟩ = false ∧ W.frozen? ⟨bt, 2, none⟩ = false := by
  have h1 := h.zb
  have h2 := h.t
  refine ⟨⟨?_, ?_, ?_, ?_⟩, ?_, ?_, ?_, ?_⟩ <;> simp [World.cell?, World.frozen?, h1, h2]
theorem qown_low {α : Type} [Lay α] {v : Value} {xs : List α} (h : OwnS W K v xs) {k : Nat} (hk : k < K) : v.ownBlock ≠ some k := by
  rcases h with ⟨rfl, _⟩ | ⟨g, cap, rfl, hg, _⟩
  · simp [Value.ownBlock]
  · simp [Value.ownBlock]; omega
theorem QB.setz (h : QB w W K bz bt z C vn vs) (z' : Int) : QB w (W.setCell ⟨bz, 0, none⟩ (.int .i64 z')) K bz bt z' C vn vs := by
  refine ⟨by rw [block_set _ h.zb]; rfl, (Below.heap_setCell W _ _ bt (by simpa using h.ne.symm)).trans h.t, h.n.other h.nz _, h.s.other h.sz _, h.nz, h.nt, h.sz, h.st, h.hz, h.ht, h.ne, ?_, h.b.setCell h.hz.1 _⟩
  have := h.kb
  simpa [World.setCell] using this
theorem QB.put (h : QB w W K bz bt z C vn vs) {T : Tr} {an ai : Value} (n : OwnS W K an T.ns) (s : OwnS W K ai T.ss) :
    QB w (((W.setCell ⟨bt, 0, none⟩ (.int .i64 T.z)).setCell ⟨bt, 1, none⟩ an).setCell ⟨bt, 2, none⟩ ai) K bz bt z T an ai := by
  have k1 := qown_low n h.ht.2
  have k2 := qown_low s h.ht.2
  have hne : bz ≠ bt := h.ne
  have hK : w.heap.size ≤ K := by have := h.hz; omega
  refine ⟨?_, ?_, (((n.other k1 _).other k1 _).other k1 _).lower hK, (((s.other k2 _).other k2 _).other k2 _).lower hK, qown_low n h.hz.2, k1, qown_low s h.hz.2, k2, h.hz, h.ht, h.ne, ?_, ((h.b.setCell h.ht.1 _).setCell h.ht.1 _).setCell h.ht.1 _⟩
  · rw [Below.heap_setCell _ _ _ bz hne, Below.heap_setCell _ _ _ bz hne, Below.heap_setCell _ _ _ bz hne]
    exact h.zb
  · rw [block_set ai (block_set an (block_set (.int .i64 T.z) h.t))]
    simp
  · have := h.kb
    simpa [World.setCell] using this
end
/-- blocks bz and bt may have turned, no other that was there -/
def TwoT (bz bt : Nat) (w w' : World) : Prop := Touch (fun k => k = bz ∨ k = bt) w w'

set_option maxRecDepth 20000 in
set_option maxHeartbeats 8000000 in
theorem do_any (w : World) (K bz bt : Nat) (z : Int) (C T : Tr) (vn vs : Value) (r : Rq) (W : World) (h : QB w W K bz bt z C vn vs) (S : StepQ C (z + 1) r T) (hz : 0 ≤ z ∧ z ≤ 1000) (hp : r.p.length ≤ 1000) (hd : r.d.length ≤ 1000) (htab : Lib.TabIs Tryz.prog w "internal/strconv.uint64pow10" .u64 Lib.pow10Tab) :
    Calls Tryz.prog 6 #[rqV r, .pointer (some ⟨bz, 0, none⟩), .pointer (some ⟨bt, 0, none⟩)] W fun e w' => e = .returned (.bool true) ∧ ∃ vn' vs', QB w w' K bz bt (z + 1) T vn' vs' ∧ OwnS w' W.heap.size vs' T.ss ∧ TwoT bz bt W w' := by
  have CQ := hide (fun V (hV : Below w.heap.size w V) (un us : Value) (hn : SeqV V un C.ns) (hs : SeqV V us C.ss) => prepare_any C (z + 1) un us r V hn hs S.g.wf (by omega) (by omega) (tab_kept htab hV))
  have CA := hide (fun (V : World) (un us : Value) (hn : SeqV V un C.ns) (hs : SeqV V us C.ss) => apply_any C un us (prpX C (z + 1) r) V hn hs S.g.wf (by rw [prpX_ok S.e]; have := filX_d C (z + 1) r; omega))
  unfold GivesP at CQ
  unfold GivesA at CA
  rw [S.e] at CQ
  rw [S.a, S.t] at CA
  obtain ⟨X, hX⟩ : ∃ X, prpX C (z + 1) r = X := ⟨_, rfl⟩
  obtain ⟨V, hV⟩ : ∃ V, appV C (prpX C (z + 1) r) = V := ⟨_, rfl⟩
  rw [hV] at CA
  rw [hX] at CA CQ
  clear hX hV S
  obtain ⟨ro, rs, rp, rd, rv, rf⟩ := r
  obtain ⟨xz, xo, xs, xp, xd, xv, xw⟩ := X
  unfold rqV txnV at CQ
  unfold txnV at CA
  unfold rqV
  simp only at CQ CA
  have H0 := hide h
  obtain ⟨⟨c0, c1, c2, c3⟩, f0, f1, f2, f3⟩ := h.cells
  have hbz := h.hz
  have hbt := h.ht
  have hne := h.ne
  have hbzW : bz < W.heap.size := by have := h.kb; omega
  have hbtW : bt < W.heap.size := by have := h.kb; omega
  obtain ⟨na, nc, rfl, _⟩ := h.n.slice
  obtain ⟨sa, sc, rfl, _⟩ := h.s.slice
  clear h
  go_enter Tryz.func6, Tryz.ntmps6
  go_wp2_with fail
  have H1 := hide (((unhide H0).setz (z + 1)).next (allocB _ (.cells #[.int .i64 ro, .int .i64 rs, .string ⟨rp.toArray⟩, .string ⟨rd.toArray⟩, .int .i64 rv, .int .i64 rf] 30)))
  have D1 : Hid (TwoT bz bt W ((W.setCell ⟨bz, 0, none⟩ (.int .i64 (z + 1))).alloc (.cells #[.int .i64 ro, .int .i64 rs, .string ⟨rp.toArray⟩, .string ⟨rd.toArray⟩, .int .i64 rv, .int .i64 rf] 30))) := hide ((Touch.set (.inl rfl) _).trans (Touch.of_below (allocB _ _)))
  generalize (W.setCell ⟨bz, 0, none⟩ (.int .i64 (z + 1))).alloc (.cells #[.int .i64 ro, .int .i64 rs, .string ⟨rp.toArray⟩, .string ⟨rd.toArray⟩, .int .i64 rv, .int .i64 rf] 30) = W1 at H1 D1 ⊢
  refine (unhide CQ _ (unhide H1).b _ _ (unhide H1).n.seq (unhide H1).s.seq).mono ?_
  rintro e w2 ⟨rfl, hb2⟩
  have H2 := hide (((unhide H1).next hb2).next (allocB _ (.cells #[.int .i64 xz, .int .i64 xo, .int .i64 xs, .string ⟨xp.toArray⟩, .string ⟨xd.toArray⟩, .int .i64 xv, .int .i64 xw] 32)))
  have D2 := hide (((unhide D1).trans (Touch.of_below hb2)).trans (Touch.of_below (allocB _ (.cells #[.int .i64 xz, .int .i64 xo, .int .i64 xs, .string ⟨xp.toArray⟩, .string ⟨xd.toArray⟩, .int .i64 xv, .int .i64 xw] 32))))
  obtain ⟨⟨d0, d1, d2, d3⟩, g0, g1, g2, g3⟩ := (unhide H2).cells
  have X2 := TAt.new w2 ⟨xz, xo, xs, xp, xd, xv, xw⟩
  obtain ⟨b0, b1, b2, b3, b4, b5, b6⟩ := X2.seven
  simp only at b0 b1 b2 b3 b4 b5 b6
  clear hb2 c0 c1 c2 c3 f0 f1 f2 f3 X2 CQ H0 H1 D1
  go_wp2_with fail
  refine (unhide CA _ _ _ (unhide H2).n.seq (unhide H2).s.seq).mono ?_
  rintro e w3 ⟨un, us, ue, rfl, n3, s3, e3, hb3⟩
  have H3 := hide ((unhide H2).next hb3)
  have D3 := hide ((unhide D2).trans (Touch.of_below hb3))
  have H4 := hide ((unhide H3).put (n3.lower (unhide H2).kb) (s3.lower (unhide H2).kb))
  have D4 := hide (((((unhide D3).trans (Touch.set (a := ⟨bt, 0, none⟩) (.inr rfl) (.int .i64 T.z))).trans (Touch.set (a := ⟨bt, 1, none⟩) (.inr rfl) un)).trans (Touch.set (a := ⟨bt, 2, none⟩) (.inr rfl) us)))
  have S4 := s3.lower (show W.heap.size ≤ _ from Nat.le_trans (unhide D2).size (Nat.le_refl _))
  have kS := qown_low S4 hbtW
  have HS4 := hide (((S4.other (a := ⟨bt, 0, none⟩) kS (.int .i64 T.z)).other (a := ⟨bt, 1, none⟩) kS un).other (a := ⟨bt, 2, none⟩) kS us)
  obtain ⟨bn, dn, rfl, _⟩ := n3.slice
  obtain ⟨bi, di, rfl, _⟩ := s3.slice
  obtain ⟨be, de, rfl, _⟩ := e3.slice
  obtain ⟨⟨k0, k1, k2, k3⟩, j0, j1, j2, j3⟩ := (unhide H3).cells
  clear n3 s3 e3 hb3 S4 kS H2 D2 D3 CA d0 d1 d2 d3 g0 g1 g2 g3 b0 b1 b2 b3 b4 b5 b6
  go_wp2_with fail
  go_ret
  exact ⟨rfl, _, _, unhide H4, unhide HS4, unhide D4⟩
end Go.Proofs.YtcplpbelficbeaaGreatDoor

namespace Go.Proofs.YtcplpbelficbeaaGreatDoor
open Go.RowKit

theorem StepQ.good {t t' : Tr} {z : Int} {r : Rq} (h : StepQ t z r t') : GoodT t' := by
  have := (app_good h.a).1
  rwa [h.t] at this

theorem rm_row {R l : Nd} {Q : List Nd} {z : Int} {p : List UInt8} (hR : R.p = [47]) (hl : l.p = [47, 108]) (hQ : ∀ n ∈ Q, n.p ≠ [47, 108]) (hd : dirOf p = [47, 108]) (h1 : p ≠ [47]) (h2 : p ≠ [47, 108]) :
    rmN z (R :: l :: Q) p = R :: bump z (-1) l :: Q.filter fun n => decide (n.p ≠ p) := by
  rw [rmN, hd, dropN, List.filter_cons_of_pos (by rw [hR]; simpa using h1.symm), List.filter_cons_of_pos (by rw [hl]; simpa using h2.symm)]
  exact bump_row hR hl (fun n hn => hQ n (List.mem_filter.1 hn).1)
theorem rmAll_row {R : Nd} {z : Int} (hR : R.p = [47]) : ∀ (ps : List (List UInt8)) (l : Nd) (Q : List Nd), l.p = [47, 108] → (∀ n ∈ Q, n.p ≠ [47, 108]) → (∀ p ∈ ps, dirOf p = [47, 108] ∧ p ≠ [47] ∧ p ≠ [47, 108]) →
    ∃ l', rmAll z (R :: l :: Q) ps = R :: l' :: (Q.filter fun n => decide (n.p ∉ ps)) ∧ l'.p = [47, 108] ∧ l'.o = l.o ∧ l'.k = l.k + ps.length
  | [], l, Q, hl, _, _ => ⟨l, by rw [qfilter_all (fun n _ => by simp)]; rfl, hl, rfl, by simp⟩
  | p :: ps, l, Q, hl, hQ, hp => by
    obtain ⟨h1, h2, h3⟩ := hp p (by simp)
    have e := rm_row (z := z) hR hl hQ h1 h2 h3
    obtain ⟨l', i1, i2, i3, i4⟩ := rmAll_row hR ps (bump z (-1) l) (Q.filter fun n => decide (n.p ≠ p)) hl (fun n hn => hQ n (List.mem_filter.1 hn).1) (fun x hx => hp x (by simp [hx]))
    refine ⟨l', ?_, i2, i3, ?_⟩
    · show rmAll z (rmN z (R :: l :: Q) p) ps = _
      rw [e, i1, List.filter_filter]
      congr 2
      refine List.filter_congr fun n _ => ?_
      simp only [List.mem_cons, not_or, Bool.decide_and, ne_eq]
      rw [Bool.and_comm]
    · rw [i4]
      show l.k + 1 + _ = _
      rw [List.length_cons]
      omega

theorem filt_sum (s : Int) : ∀ Q : List Nd, (Q.filter fun n => decide (n.o = s)).length + (Q.filter fun n => decide (n.o ≠ s)).length = Q.length
  | [] => rfl
  | n :: Q => by
    have ih := filt_sum s Q
    by_cases h : n.o = s
    · rw [List.filter_cons_of_pos (by simpa using h), List.filter_cons_of_neg (by simpa using h), List.length_cons, List.length_cons]
      omega
    · rw [List.filter_cons_of_neg (by simpa using h), List.filter_cons_of_pos (by simpa using h), List.length_cons, List.length_cons]
      omega
/- one closes, and opens again -/
theorem close_step {t : Tr} {z cv s : Int} {Q : List Nd} (q : Qu t z cv Q) (hs : 1 ≤ s ∧ s ≤ 5) (hcv : 0 ≤ cv ∧ cv ≤ 10000) (hz : 0 ≤ z ∧ z ≤ 10000) (hQ : Q.length ≤ 300) :
    ∃ t1 t2 cv', StepQ t (z + 1) ⟨2, s, [], [], 0, 0⟩ t1 ∧ StepQ t1 (z + 1 + 1) ⟨1, s, [], [], 0, 0⟩ t2 ∧ Qu t2 (z + 1 + 1) cv' (Q.filter fun n => decide (n.o ≠ s)) ∧ 0 ≤ cv' ∧ cv' + ((Q.filter fun n => decide (n.o ≠ s)).length : Int) = cv + (Q.length : Int) := by
  obtain ⟨R, l, hns, hR, hRo, hl, hlo, hlk⟩ := q.ns
  have g := q.g
  have hzg := zgood_of (z := z + 1) (by omega)
  have hsm : s ∈ t.ss := by rw [q.ss]; exact five hs
  obtain ⟨hf, hx⟩ := fil_end (t := t) (z := z + 1) (r := ⟨2, s, [], [], 0, 0⟩) (.inr rfl)
  have hgd : gdE ⟨z + 1, 2, s, [], [], 0, 0⟩ = 0 := gdE_ok rfl (numB_iff.2 ⟨hzg, cntB_iff.2 (by simp only; omega), rfl, rfl⟩) (by simp) rfl
  have ha := adm_of (x := ⟨z + 1, 2, s, [], [], 0, 0⟩) g hgd (by rw [q.tz]; show z < z + 1; omega) (fun h => by simp only at h; omega) (fun _ => hsm)
  have hop : ownedP t.ns s = (Q.filter fun n => decide (n.o = s)).map Nd.p := by
    rw [ownedP, hns, List.filter_cons_of_neg (by rw [hRo]; simp; omega), List.filter_cons_of_neg (by rw [hlo]; simp; omega)]
  have hps : ∀ p ∈ ownedP t.ns s, dirOf p = [47, 108] ∧ p ≠ [47] ∧ p ≠ [47, 108] := by
    intro p hp
    rw [hop] at hp
    obtain ⟨n, hn, rfl⟩ := List.mem_map.1 hp
    obtain ⟨c, _, e⟩ := q.q n (List.mem_filter.1 hn).1
    rw [e]
    exact ⟨qP_dir c, qP_root c, qP_l c⟩
  have hQl : ∀ n ∈ Q, n.p ≠ [47, 108] := fun n hn => by obtain ⟨c, _, e⟩ := q.q n hn; rw [e]; exact qP_l c
  obtain ⟨l', h1, h2, h3, h4⟩ := rmAll_row (z := z + 1) hR (ownedP t.ns s) l Q hl hQl hps
  have hflt : (Q.filter fun n => decide (n.p ∉ ownedP t.ns s)) = Q.filter fun n => decide (n.o ≠ s) := by
    refine List.filter_congr fun n hn => ?_
    rw [decide_eq_decide]
    rw [hop]
    constructor
    · intro hno e
      exact hno (List.mem_map.2 ⟨n, List.mem_filter.2 ⟨hn, decide_eq_true e⟩, rfl⟩)
    · intro hno hm
      obtain ⟨m, hm1, hm2⟩ := List.mem_map.1 hm
      obtain ⟨hmQ, hmo⟩ := List.mem_filter.1 hm1
      have : m = n := nasc_uniq g.nod.asc (by rw [hns]; simp [hmQ]) (by rw [hns]; simp [hn]) hm2
      rw [this] at hmo
      exact hno (of_decide_eq_true hmo)
  rw [hflt] at h1
  have hN : chgN t ⟨z + 1, 2, s, [], [], 0, 0⟩ = R :: l' :: Q.filter fun n => decide (n.o ≠ s) := by
    show rmAll (z + 1) t.ns (ownedP t.ns s) = _
    rw [← h1, ← hns]
  have hpl : (ownedP t.ns s).length = (Q.filter fun n => decide (n.o = s)).length := by rw [hop, List.length_map]
  have hsum := filt_sum s Q
  have hfu : fullN (chgN t ⟨z + 1, 2, s, [], [], 0, 0⟩) = false := by
    rw [hN, fullN_false]
    intro m hm
    rcases List.mem_cons.1 hm with rfl | hm
    · exact g.cap m (by rw [hns]; simp)
    · rcases List.mem_cons.1 hm with rfl | hm
      · omega
      · exact g.cap m (by rw [hns]; simp [(List.mem_filter.1 hm).1])
  obtain ⟨e1, e2⟩ := app_of ha rfl hfu
  have hS := step_of (r := ⟨2, s, [], [], 0, 0⟩) g hzg (by simp only; omega) hf (by rw [hx]; exact e1)
  rw [hx, e2, hN] at hS
  have hss : chgS t ⟨z + 1, 2, s, [], [], 0, 0⟩ = dropS [1, 2, 3, 4, 5] s := by
    show dropS t.ss s = _
    rw [q.ss]
  rw [hss] at hS
  have g1 := hS.good
  have hO := open_step (z := z + 1 + 1) (s := s) g1 (show z + 1 < z + 1 + 1 by omega) (by omega) (by omega) (by
    show s ∉ dropS [1, 2, 3, 4, 5] s
    rw [dropS]
    intro h
    have := (List.mem_filter.1 h).2
    simp at this)
  have hins : insS (dropS [1, 2, 3, 4, 5] s) s = [1, 2, 3, 4, 5] := by
    have : s = 1 ∨ s = 2 ∨ s = 3 ∨ s = 4 ∨ s = 5 := by omega
    rcases this with rfl | rfl | rfl | rfl | rfl <;> decide
  have g2 := hO.good
  simp only at hO g2
  rw [hins] at hO g2
  refine ⟨_, _, l'.k, hS, hO, ⟨g2, rfl, rfl, ⟨R, l', rfl, hR, hRo, h2, by rw [h3]; exact hlo, rfl⟩, ?_, q.up.filter _⟩, by omega, by omega⟩
  intro n hn
  obtain ⟨c, hc, e⟩ := q.q n (List.mem_filter.1 hn).1
  exact ⟨c, by omega, e⟩

/- who is in line -/
theorem qu_line {t : Tr} {z cv : Int} {Q : List Nd} (q : Qu t z cv Q) : linE t.ns [47, 108] [113] = 0 ∧ linL t.ns [47, 108] [113] = Q.map fun n => stepOf n.p := by
  obtain ⟨R, l, hns, hR, hRo, hl, hlo, hlk⟩ := q.ns
  have hlook : lookN t.ns [47, 108] = some l := by rw [← hl]; exact look_mem q.g.nod.asc (by rw [hns]; simp)
  obtain ⟨h1, h2⟩ := lin_ok hlook (m := [113]) (.inr (by decide))
  refine ⟨h1, ?_⟩
  have hk : kidsP t.ns [47, 108] = Q.map fun n => stepOf n.p := by
    rw [kidsP, hns, List.filter_cons_of_neg (by rw [hR, dirOf_root]; simp), List.filter_cons_of_neg (by rw [hl, l_dir]; simp), qfilter_all]
    intro n hn
    obtain ⟨c, _, e⟩ := q.q n hn
    rw [e, qP_dir]
    simp
  rw [h2, hk, qfilter_all]
  intro x hx
  obtain ⟨n, hn, rfl⟩ := List.mem_map.1 hx
  obtain ⟨c, _, e⟩ := q.q n hn
  rw [e, qP_step]
  exact q_nmb c
theorem qu_len {t : Tr} {z cv : Int} {Q : List Nd} (q : Qu t z cv Q) : (linL t.ns [47, 108] [113]).length = Q.length := by rw [(qu_line q).2, List.length_map]
theorem qu_none {t : Tr} {z cv : Int} (q : Qu t z cv []) : holO t.ns [47, 108] [113] = 0 ∧ holC t.ns [47, 108] [113] = 0 := hol_nil (by rw [(qu_line q).2]; rfl)
theorem qu_first {t : Tr} {z cv : Int} {n : Nd} {Q : List Nd} (q : Qu t z cv (n :: Q)) : holO t.ns [47, 108] [113] = n.o ∧ holC t.ns [47, 108] [113] = n.c := by
  obtain ⟨R, l, hns, _⟩ := q.ns
  obtain ⟨c, _, e⟩ := q.q n (by simp)
  refine hol_some (x := 113 :: ten c) (r := Q.map fun n => stepOf n.p) (by rw [(qu_line q).2, List.map_cons, e, qP_step]) ?_
  rw [q_bel, ← e]
  exact look_mem q.g.nod.asc (by rw [hns]; simp)

/- how it begins -/
def opS : Nat → List Int
  | 0 => []
  | k + 1 => opS k ++ [(k : Int) + 1]
def opT (k : Nat) : Tr := ⟨k, [nroot], opS k⟩
theorem opS_le : ∀ (k : Nat) (s : Int), s ∈ opS k → s ≤ k
  | 0, s, h => by simp [opS] at h
  | k + 1, s, h => by
    rcases List.mem_append.1 h with h | h
    · have := opS_le k s h; omega
    · simp at h; omega
theorem ins_end {ss : List Int} {s : Int} (h : ∀ x ∈ ss, x < s) : insS ss s = ss ++ [s] := by
  rw [insS, qfilter_all (fun x hx => decide_eq_true (h x hx)), qfilter_none (fun x hx => decide_eq_false (by have := h x hx; omega))]
theorem opens_one {k : Nat} (g : GoodT (opT k)) (hk : k < 5) : StepQ (opT k) ((k : Int) + 1) ⟨1, (k : Int) + 1, [], [], 0, 0⟩ (opT (k + 1)) := by
  have h := open_step (z := (k : Int) + 1) (s := (k : Int) + 1) g (show (k : Int) < (k : Int) + 1 by omega) (by omega) (by omega) (fun h => by have := opS_le k _ h; omega)
  rw [show insS (opT k).ss ((k : Int) + 1) = opS (k + 1) from ins_end (fun x hx => by have := opS_le k x hx; omega)] at h
  have e : opT (k + 1) = ⟨(k : Int) + 1, (opT k).ns, opS (k + 1)⟩ := by simp [opT]
  rw [e]
  exact h
theorem opens_good : ∀ k, k ≤ 5 → GoodT (opT k)
  | 0, _ => good_new
  | k + 1, h => (opens_one (opens_good k (by omega)) (by omega)).good
theorem first_step : ∃ t', StepQ (opT 5) 6 ⟨3, 1, [47, 108], [], 0, 0⟩ t' ∧ Qu t' 6 0 [] := by
  have g := opens_good 5 (Nat.le_refl _)
  have hzg := zgood_of (z := 6) (by omega)
  have hfil := fil_cre (t := opT 5) (z := 6) (r := ⟨3, 1, [47, 108], [], 0, 0⟩) rfl
  have hfE : filE (opT 5) ⟨3, 1, [47, 108], [], 0, 0⟩ = 0 := by
    rw [hfil.1]
    exact fcr_plain (by decide) ⟨l_good, by decide⟩ (by decide) (by decide)
  have hx : filX (opT 5) 6 ⟨3, 1, [47, 108], [], 0, 0⟩ = ⟨6, 3, 1, [47, 108], [], 0, 0⟩ := by rw [hfil.2]; rfl
  have hgd : gdE ⟨6, 3, 1, [47, 108], [], 0, 0⟩ = 0 := by
    refine gdE_ok rfl (numB_iff.2 ⟨hzg, rfl, rfl, rfl⟩) (by simp) ?_
    show (if (3 : Int) = 3 then goodB [47, 108] && !(([47, 108] : List UInt8) == [47]) && (0 : Int) == 0 else _) = true
    rw [if_pos rfl, l_good]; rfl
  have ha := adm_of (x := ⟨6, 3, 1, [47, 108], [], 0, 0⟩) g hgd (by decide) (fun h => absurd h (by decide)) (fun _ => by decide)
  have hc : chgE (opT 5) ⟨6, 3, 1, [47, 108], [], 0, 0⟩ = 0 := by
    show creE (opT 5) ⟨6, 3, 1, [47, 108], [], 0, 0⟩ = 0
    unfold creE
    simp only
    rw [l_dir]
    rfl
  have hN : chgN (opT 5) ⟨6, 3, 1, [47, 108], [], 0, 0⟩ = [bump 6 1 nroot, ⟨[47, 108], [], 6, 6, 6, 0, 0, 0, 0⟩] := by
    show addN 6 [nroot] ⟨[47, 108], [], 6, 6, 6, 0, 0, 0, 0⟩ = _
    rw [addN, ins_last (by intro n hn; simp at hn; subst hn; decide)]
    simp only [l_dir]
    rfl
  have hf : fullN (chgN (opT 5) ⟨6, 3, 1, [47, 108], [], 0, 0⟩) = false := by rw [hN]; decide
  obtain ⟨h1, h2⟩ := app_of ha hc hf
  have hS := step_of (r := ⟨3, 1, [47, 108], [], 0, 0⟩) g hzg (by decide) hfE (by rw [hx]; exact h1)
  rw [hx, h2, hN] at hS
  exact ⟨_, hS, hS.good, rfl, by decide, ⟨bump 6 1 nroot, ⟨[47, 108], [], 6, 6, 6, 0, 0, 0, 0⟩, rfl, rfl, rfl, rfl, rfl, rfl⟩, by simp, List.Pairwise.nil⟩
end Go.Proofs.YtcplpbelficbeaaGreatDoor
