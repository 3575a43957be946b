/-
  TreeDeep: the walk.
  TreePlays: the walk.
-/
import Derived.Test.YtabmelioindmlaaDoorMI
import Derived.Test.YtabmelioindmlaaDoorMW
namespace Go.Proofs.YtabmelioindmlaaDoor
open Go.RowKit

/-- a box q holds a good tree -/
structure CurT (w wr : World) (q : Nat) (C : Tr) (vn vs : Value) : Prop where
  box : wr.heap[q]? = some (.cells #[.int .i64 C.z, vn, vs] 25 (0, 0))
  n : SeqV wr vn C.ns
  s : SeqV wr vs C.ss
  good : GoodT C
  qb : w.heap.size ≤ q
  b : Below w.heap.size w wr
theorem CurT.lt {w wr : World} {q : Nat} {C : Tr} {vn vs : Value} (h : CurT w wr q C vn vs) : q < wr.heap.size := (Array.getElem?_eq_some_iff.1 h.box).1
theorem CurT.next {w wr V : World} {q : Nat} {C : Tr} {vn vs : Value} (h : CurT w wr q C vn vs) (hb : Below wr.heap.size wr V) : CurT w V q C vn vs :=
  ⟨(hb.block _ h.lt).trans h.box, h.n.next hb, h.s.next hb, h.good, h.qb, nnext h.b hb⟩
theorem CurT.cells {w wr : World} {q : Nat} {C : Tr} {vn vs : Value} (h : CurT w wr q C vn vs) : wr.cell? ⟨q, 0, none⟩ = some (.int .i64 C.z) ∧ wr.cell? ⟨q, 1, none⟩ = some vn ∧ wr.cell? ⟨q, 2, none⟩ = some vs ∧ wr.frozen? ⟨q, 0, none⟩ = false ∧ wr.frozen? ⟨q, 1, none⟩ = false ∧ wr.frozen? ⟨q, 2, none⟩ = false := by
  have h1 := h.box
  refine ⟨?_, ?_, ?_, ?_, ?_, ?_⟩ <;> simp [World.cell?, World.frozen?, h1]
/-- a new tree is stored in the box -/
theorem CurT.put {w wr W : World} {q : Nat} {C T : Tr} {vn vs un us : Value} {B : Nat} (h : CurT w wr q C vn vs) (hB : q < B) (n : OwnS wr B un T.ns) (s : OwnS wr B us T.ss) (g : GoodT T) (hW : W = ((wr.setCell ⟨q, 0, none⟩ (.int .i64 T.z)).setCell ⟨q, 1, none⟩ un).setCell ⟨q, 2, none⟩ us) : CurT w W q T un us := by
  subst hW
  have no : ∀ {α : Type} [Lay α] {v : Value} {xs : List α}, OwnS wr B v xs → v.ownBlock ≠ some q := by
    intro α _ v xs ho e
    rcases ho with ⟨rfl, _⟩ | ⟨g, cap, rfl, hB, _⟩
    · cases e
    · simp [Value.ownBlock] at e; omega
  refine ⟨?_, ((((n.other (no n) _).other (no n) _).other (no n) _)).seq, ((((s.other (no s) _).other (no s) _).other (no s) _)).seq, g, h.qb, ((h.b.setCell h.qb _).setCell h.qb _).setCell h.qb _⟩
  rw [block_set us (block_set un (block_set (.int .i64 T.z) h.box))]
  simp
/-- what Apply's statement reads -/
structure DepR (W : World) (q : Nat) (z : Int) (vn vs : Value) (g o : Nat) (x : WTxn) : Prop where
  a : W.heap[q]? = some (.cells #[.int .i64 z, vn, vs] 25 (0, 0))
  l : g < W.heap.size
  c0 : W.cell? ⟨g, o, none⟩ = some (.int .i64 x.z)
  c1 : W.cell? ⟨g, o + 1, none⟩ = some (.int .i64 x.o)
  c2 : W.cell? ⟨g, o + 2, none⟩ = some (.int .i64 x.s)
  c3 : W.cell? ⟨g, o + 3, none⟩ = some (.string ⟨x.p.toArray⟩)
  c4 : W.cell? ⟨g, o + 4, none⟩ = some (.string ⟨x.d.toArray⟩)
  c5 : W.cell? ⟨g, o + 5, none⟩ = some (.int .i64 x.v)
  c6 : W.cell? ⟨g, o + 6, none⟩ = some (.int .i64 x.w)
theorem DepR.next {W V : World} {q : Nat} {z : Int} {vn vs : Value} {g o : Nat} {x : WTxn} (h : DepR W q z vn vs g o x) (hb : Below W.heap.size W V) : DepR V q z vn vs g o x :=
  ⟨(hb.block _ (Array.getElem?_eq_some_iff.1 h.a).1).trans h.a, Nat.lt_of_lt_of_le h.l hb.size, (hb.cell (p := ⟨g, o, none⟩) h.l).trans h.c0, (hb.cell (p := ⟨g, o + 1, none⟩) h.l).trans h.c1, (hb.cell (p := ⟨g, o + 2, none⟩) h.l).trans h.c2, (hb.cell (p := ⟨g, o + 3, none⟩) h.l).trans h.c3, (hb.cell (p := ⟨g, o + 4, none⟩) h.l).trans h.c4, (hb.cell (p := ⟨g, o + 5, none⟩) h.l).trans h.c5, (hb.cell (p := ⟨g, o + 6, none⟩) h.l).trans h.c6⟩
theorem DepR.drew {W : World} {q : Nat} {z : Int} {vn vs : Value} {g o : Nat} {x : WTxn} (h : DepR W q z vn vs g o x) : DepR W.drew q z vn vs g o x := h.next (Below.refl _ _).drew
theorem DepR.ten {W : World} {q : Nat} {z : Int} {vn vs : Value} {g o : Nat} {x : WTxn} (h : DepR W q z vn vs g o x) : W.cell? ⟨q, 0, none⟩ = some (.int .i64 z) ∧ W.cell? ⟨q, 1, none⟩ = some vn ∧ W.cell? ⟨q, 2, none⟩ = some vs ∧ W.cell? ⟨g, o, none⟩ = some (.int .i64 x.z) ∧ W.cell? ⟨g, o + 1, none⟩ = some (.int .i64 x.o) ∧ W.cell? ⟨g, o + 2, none⟩ = some (.int .i64 x.s) ∧ W.cell? ⟨g, o + 3, none⟩ = some (.string ⟨x.p.toArray⟩) ∧ W.cell? ⟨g, o + 4, none⟩ = some (.string ⟨x.d.toArray⟩) ∧ W.cell? ⟨g, o + 5, none⟩ = some (.int .i64 x.v) ∧ W.cell? ⟨g, o + 6, none⟩ = some (.int .i64 x.w) := by
  have h1 := h.a
  refine ⟨?_, ?_, ?_, h.c0, h.c1, h.c2, h.c3, h.c4, h.c5, h.c6⟩ <;> simp [World.cell?, h1]

end Go.Proofs.YtabmelioindmlaaDoor

namespace Go.Proofs.YtabmelioindmlaaDoor
open Go.RowKit

/-- the boxes q and r hold the same good tree -/
structure Cur2 (w wr : World) (q r : Nat) (C : Tr) (vn vs un us : Value) : Prop where
  b1 : wr.heap[q]? = some (.cells #[.int .i64 C.z, vn, vs] 25 (0, 0))
  b2 : wr.heap[r]? = some (.cells #[.int .i64 C.z, un, us] 25 (0, 0))
  n1 : SeqV wr vn C.ns
  s1 : SeqV wr vs C.ss
  n2 : SeqV wr un C.ns
  s2 : SeqV wr us C.ss
  good : GoodT C
  qb : w.heap.size ≤ q
  rb : w.heap.size ≤ r
  ne : q ≠ r
  b : Below w.heap.size w wr
section
variable {w wr V : World} {q r : Nat} {C : Tr} {vn vs un us : Value}
theorem Cur2.lt (h : Cur2 w wr q r C vn vs un us) : q < wr.heap.size ∧ r < wr.heap.size := ⟨(Array.getElem?_eq_some_iff.1 h.b1).1, (Array.getElem?_eq_some_iff.1 h.b2).1⟩
theorem Cur2.next (h : Cur2 w wr q r C vn vs un us) (hb : Below wr.heap.size wr V) : Cur2 w V q r C vn vs un us :=
  ⟨(hb.block _ h.lt.1).trans h.b1, (hb.block _ h.lt.2).trans h.b2, h.n1.next hb, h.s1.next hb, h.n2.next hb, h.s2.next hb, h.good, h.qb, h.rb, h.ne, nnext h.b hb⟩
theorem Cur2.cells (h : Cur2 w wr q r C vn vs un us) : (wr.cell? ⟨q, 0, none⟩ = some (.int .i64 C.z) ∧ wr.cell? ⟨q, 1, none⟩ = some vn ∧ wr.cell? ⟨q, 2, none⟩ = some vs) ∧ (wr.cell? ⟨r, 0, none⟩ = some (.int .i64 C.z) ∧ wr.cell? ⟨r, 1, none⟩ = some un ∧ wr.cell? ⟨r, 2, none⟩ = some us) := by
  have h1 := h.b1
  have h2 := h.b2
  refine ⟨⟨?_, ?_, ?_⟩, ?_, ?_, ?_⟩ <;> simp [World.cell?, h1, h2]
theorem Cur2.cold (h : Cur2 w wr q r C vn vs un us) : (wr.frozen? ⟨q, 0, none⟩ = false ∧ wr.frozen? ⟨q, 1, none⟩ = false ∧ wr.frozen? ⟨q, 2, none⟩ = false) ∧ (wr.frozen? ⟨r, 0, none⟩ = false ∧ wr.frozen? ⟨r, 1, none⟩ = false ∧ wr.frozen? ⟨r, 2, none⟩ = false) := by
  have h1 := h.b1
  have h2 := h.b2
  refine ⟨⟨?_, ?_, ?_⟩, ?_, ?_, ?_⟩ <;> simp [World.frozen?, h1, h2]
/-- a value of one's own block is not in a box below -/
theorem own_off {α : Type} [Lay α] {W : World} {B k : Nat} {v : Value} {xs : List α} (ho : OwnS W B v xs) (hk : k < B) : v.ownBlock ≠ some k := by
  intro e
  rcases ho with ⟨rfl, _⟩ | ⟨g, cap, rfl, hB, _⟩
  · cases e
  · simp [Value.ownBlock] at e; omega
theorem own_six {α : Type} [Lay α] {W : World} {B q r : Nat} {v : Value} {xs : List α} (o : OwnS W B v xs) (hq : q < B) (hr : r < B) (v0 v1 v2 v3 v4 v5 : Value) :
    SeqV ((((((W.setCell ⟨q, 0, none⟩ v0).setCell ⟨q, 1, none⟩ v1).setCell ⟨q, 2, none⟩ v2).setCell ⟨r, 0, none⟩ v3).setCell ⟨r, 1, none⟩ v4).setCell ⟨r, 2, none⟩ v5) v xs :=
  ((((((o.other (own_off o hq) _).other (own_off o hq) _).other (own_off o hq) _).other (own_off o hr) _).other (own_off o hr) _).other (own_off o hr) _).seq
/-- new trees are stored in both boxes -/
theorem Cur2.put {W : World} {T : Tr} {an ai bn bi : Value} {B : Nat} (h : Cur2 w wr q r C vn vs un us) (hq : q < B) (hr : r < B) (n1 : OwnS wr B an T.ns) (s1 : OwnS wr B ai T.ss) (n2 : OwnS wr B bn T.ns) (s2 : OwnS wr B bi T.ss) (g : GoodT T)
    (hW : W = (((((wr.setCell ⟨q, 0, none⟩ (.int .i64 T.z)).setCell ⟨q, 1, none⟩ an).setCell ⟨q, 2, none⟩ ai).setCell ⟨r, 0, none⟩ (.int .i64 T.z)).setCell ⟨r, 1, none⟩ bn).setCell ⟨r, 2, none⟩ bi) : Cur2 w W q r T an ai bn bi := by
  subst hW
  have ne := h.ne
  refine ⟨?_, ?_, own_six n1 hq hr _ _ _ _ _ _, own_six s1 hq hr _ _ _ _ _ _, own_six n2 hq hr _ _ _ _ _ _, own_six s2 hq hr _ _ _ _ _ _, g, h.qb, h.rb, ne, (((((h.b.setCell h.qb _).setCell h.qb _).setCell h.qb _).setCell h.rb _).setCell h.rb _).setCell h.rb _⟩
  · rw [Below.heap_setCell _ _ _ q (by simpa using ne), Below.heap_setCell _ _ _ q (by simpa using ne), Below.heap_setCell _ _ _ q (by simpa using ne)]
    rw [block_set ai (block_set an (block_set (.int .i64 T.z) h.b1))]
    simp
  · have h2 : (((wr.setCell ⟨q, 0, none⟩ (.int .i64 T.z)).setCell ⟨q, 1, none⟩ an).setCell ⟨q, 2, none⟩ ai).heap[r]? = some (.cells #[.int .i64 C.z, un, us] 25 (0, 0)) := by
      rw [Below.heap_setCell _ _ _ r (by simpa using ne.symm), Below.heap_setCell _ _ _ r (by simpa using ne.symm), Below.heap_setCell _ _ _ r (by simpa using ne.symm)]
      exact h.b2
    rw [block_set bi (block_set bn (block_set (.int .i64 T.z) h2))]
    simp
end
theorem args_good {C : Tr} {x : WTxn} (g : GoodT C) (hx : x.z ≤ 9223372036854775807 ∧ x.p.length ≤ 1048576 ∧ x.d.length ≤ 140737488355328) : Args C x := by
  have hz := zGood_iff.1 g.zx
  exact ⟨g.wf, by omega, fun n hn => by have := goodB_le (g.nod.ok n hn).path; omega, by have := sasc_len g.ses; omega, hx.1, hx.2.1, hx.2.2⟩

set_option maxRecDepth 20000 in
set_option maxHeartbeats 8000000 in
theorem treePlays_walk (ts : List WTxn) (v : Value) (w : World) (hv : LogV w v ts) (hsl : ∀ t ∈ ts, t.z ≤ 9223372036854775807 ∧ t.p.length ≤ 1048576 ∧ t.d.length ≤ 140737488355328) (hln : ts.length ≤ 140737488355328) :
    Calls Tryd.prog 4 #[v] w fun e w' => e = .returned (.bool true) ∧ Below w.heap.size w w' := by
  have CA := hide (fun (C : Tr) (g : GoodT C) (x : WTxn) (hx : x.d.length ≤ 140737488355328) (W : World) (vn vs : Value) (hn : SeqV W vn C.ns) (hs : SeqV W vs C.ss) => apply_any C vn vs x W hn hs g.wf hx)
  have CR := hide (fun (C : Tr) (g : GoodT C) (x : WTxn) (hx : x.z ≤ 9223372036854775807 ∧ x.p.length ≤ 1048576 ∧ x.d.length ≤ 140737488355328) (W : World) (vn vs : Value) (hn : SeqV W vn C.ns) (hs : SeqV W vs C.ss) => rapply_any C x vn vs W hn hs (args_good g hx) (by have := sasc_len g.ses; omega))
  unfold GivesA txnV at CA
  unfold GivesR txnV at CR
  have KL : ∀ W, Below w.heap.size w W → ∀ (i : Nat) (x : WTxn), ts[i]? = some x → ∃ g off c, v = .slice (some ⟨g, off, none⟩) ts.length c ∧ g < w.heap.size ∧ W.cell? ⟨g, off + i * 7, none⟩ = some (.int .i64 x.z) ∧ W.cell? ⟨g, off + i * 7 + 1, none⟩ = some (.int .i64 x.o) ∧ W.cell? ⟨g, off + i * 7 + 2, none⟩ = some (.int .i64 x.s) ∧ W.cell? ⟨g, off + i * 7 + 3, none⟩ = some (.string ⟨x.p.toArray⟩) ∧ W.cell? ⟨g, off + i * 7 + 4, none⟩ = some (.string ⟨x.d.toArray⟩) ∧ W.cell? ⟨g, off + i * 7 + 5, none⟩ = some (.int .i64 x.v) ∧ W.cell? ⟨g, off + i * 7 + 6, none⟩ = some (.int .i64 x.w) := by
    intro W hW i x hx
    obtain ⟨g, off, c, e, hg, hr, _⟩ := log_row hv hx
    have hr' := hr.kept hW hg
    exact ⟨g, off, c, e, hg, hr'.z hx, hr'.o hx, hr'.s hx, hr'.p hx, hr'.d hx, hr'.v hx, hr'.w hx⟩
  have HKL := hide KL
  obtain ⟨la, lc, rfl⟩ := log_slice hv
  have HSL := hide hsl
  clear hv KL hsl
  go_enter Tryd.func4, Tryd.ntmps4
  go_wp2_with fail
  refine (tnew_any _).mono ?_
  rintro e w1 ⟨vn1, vs1, rfl, n1, s1, hb1⟩
  obtain ⟨an1, cn1, rfl, _⟩ := n1.slice
  obtain ⟨ai1, ci1, rfl, _⟩ := s1.slice
  have N1 := hide n1.seq
  have S1 := hide s1.seq
  have B1 := hide hb1
  clear n1 s1 hb1
  go_wp2_with fail
  refine (rnew_any _).mono ?_
  rintro e w2 ⟨vn2, vs2, rfl, n2, s2, hb2⟩
  obtain ⟨an2, cn2, rfl, _⟩ := n2.slice
  obtain ⟨ai2, ci2, rfl, _⟩ := s2.slice
  have N2 := hide n2.seq
  have S2 := hide s2.seq
  have N3 := hide ((unhide N1).next hb2)
  have S3 := hide ((unhide S1).next hb2)
  have B2 := hide (nnext (unhide B1) hb2)
  clear n2 s2 hb2 B1 N1 S1
  have C0 : Hid (Cur2 w ((w2.alloc (.cells #[.int .i64 trNew.z, .slice an1 trNew.ns.length cn1, .slice ai1 trNew.ss.length ci1] 25)).alloc (.cells #[.int .i64 trNew.z, .slice an2 trNew.ns.length cn2, .slice ai2 trNew.ss.length ci2] 25)) w2.heap.size (w2.heap.size + 1) trNew (.slice an1 trNew.ns.length cn1) (.slice ai1 trNew.ss.length ci1) (.slice an2 trNew.ns.length cn2) (.slice ai2 trNew.ss.length ci2)) := by
    have bb := nnext (allocB w2 (.cells #[.int .i64 trNew.z, .slice an1 trNew.ns.length cn1, .slice ai1 trNew.ss.length ci1] 25)) (allocB (w2.alloc (.cells #[.int .i64 trNew.z, .slice an1 trNew.ns.length cn1, .slice ai1 trNew.ss.length ci1] 25)) (.cells #[.int .i64 trNew.z, .slice an2 trNew.ns.length cn2, .slice ai2 trNew.ss.length ci2] 25))
    have hz := (unhide B2).size
    refine ⟨?_, ?_, (unhide N3).next bb, (unhide S3).next bb, (unhide N2).next bb, (unhide S2).next bb, good_new, hz, by omega, by omega, nnext (unhide B2) bb⟩
    · rw [(allocB _ _).block _ (by simp)]
      exact heap_alloc_new w2 _
    · have h := heap_alloc_new (w2.alloc (.cells #[.int .i64 trNew.z, .slice an1 trNew.ns.length cn1, .slice ai1 trNew.ss.length ci1] 25)) (.cells #[.int .i64 trNew.z, .slice an2 trNew.ns.length cn2, .slice ai2 trNew.ss.length ci2] 25)
      rw [show (w2.alloc (.cells #[.int .i64 trNew.z, .slice an1 trNew.ns.length cn1, .slice ai1 trNew.ss.length ci1] 25)).heap.size = w2.heap.size + 1 by simp] at h
      exact h
  clear N2 S2 N3 S3 B2
  go_wp2_with fail
  obtain ⟨W3, hW3⟩ : ∃ W3, (w2.alloc (.cells #[.int .i64 trNew.z, .slice an1 trNew.ns.length cn1, .slice ai1 trNew.ss.length ci1] 25)).alloc (.cells #[.int .i64 trNew.z, .slice an2 trNew.ns.length cn2, .slice ai2 trNew.ss.length ci2] 25) = W3 := ⟨_, rfl⟩
  rw [hW3] at C0 ⊢
  obtain ⟨r, hr⟩ : ∃ r, w2.heap.size + 1 = r := ⟨_, rfl⟩
  rw [hr] at C0 ⊢
  obtain ⟨q, hq⟩ : ∃ q, w2.heap.size = q := ⟨_, rfl⟩
  rw [hq] at C0 ⊢
  clear hW3 hq hr
  go_loopg [5] ts.length (fun kx s5 wr => ∃ (k : Nat) (C : Tr) (an : Option Addr) (cn : Nat) (ai : Option Addr) (ci : Nat) (bn : Option Addr) (dn : Nat) (bi : Option Addr) (di : Nat), s5 = .int .i64 k ∧ k ≤ ts.length ∧ k ≤ 120 ∧ ts.length - k ≤ kx ∧ Hid (Cur2 w wr q r C (.slice an C.ns.length cn) (.slice ai C.ss.length ci) (.slice bn C.ns.length dn) (.slice bi C.ss.length di)))
  case atStart => exact ⟨0, trNew, an1, cn1, ai1, ci1, an2, cn2, ai2, ci2, rfl, Nat.zero_le _, Nat.zero_le _, Nat.le_refl _, C0⟩
  case round =>
    obtain ⟨k, C, an, cn, ai, ci, bn, dn, bi, di, rfl, hk, hk120, hg, hC⟩ := hrel
    obtain ⟨hql, hrl⟩ := (unhide hC).lt
    have hqr := (unhide hC).ne
    clear C0
    have fin : Hid (Calls Tryd.prog 10 #[.agg #[.int .i64 C.z, .slice an C.ns.length cn, .slice ai C.ss.length ci], .agg #[.int .i64 C.z, .slice bn C.ns.length dn, .slice bi C.ss.length di]] wr fun e w' => e = .returned (.bool true) ∧ Below wr.heap.size wr w') := hide (rsameT_any C _ _ _ _ wr (unhide hC).n1 (unhide hC).s1 (unhide hC).n2 (unhide hC).s2 (by have := (unhide hC).good.nod.few; omega) (by have := sasc_len (unhide hC).good.ses; omega))
    by_cases hlt : k < ts.length
    · by_cases h120 : k < 120
      · obtain ⟨x, hx⟩ : ∃ x, ts[k]? = some x := ⟨_, List.getElem?_eq_getElem hlt⟩
        obtain ⟨lb, lo, lc', he, hlb, l0, l1, l2, l3, l4, l5, l6⟩ := unhide HKL wr (unhide hC).b k x hx
        simp only [Value.slice.injEq] at he
        obtain ⟨rfl, _, rfl⟩ := he
        have hxd := unhide HSL x (List.mem_of_getElem? hx)
        have hsz := (unhide hC).b.size
        have R0 : Hid (DepR wr q C.z (.slice an C.ns.length cn) (.slice ai C.ss.length ci) lb (lo + k * 7) x) := ⟨(unhide hC).b1, by omega, l0, l1, l2, l3, l4, l5, l6⟩
        have Q0 : Hid (DepR wr r C.z (.slice bn C.ns.length dn) (.slice bi C.ss.length di) lb (lo + k * 7) x) := ⟨(unhide hC).b2, by omega, l0, l1, l2, l3, l4, l5, l6⟩
        have CX := hide (fun W vn vs (hn : SeqV W vn C.ns) (hs : SeqV W vs C.ss) => unhide CA C (unhide hC).good x hxd.2.2 W vn vs hn hs)
        have CY := hide (fun W vn vs (hn : SeqV W vn C.ns) (hs : SeqV W vs C.ss) => unhide CR C (unhide hC).good x hxd W vn vs hn hs)
        have CS := hide (fun (vn vs un us : Value) W (hn : SeqV W vn (appT C x).ns) (hs : SeqV W vs (appT C x).ss) (gn : SeqV W un (appT C x).ns) (gs : SeqV W us (appT C x).ss) => rsameT_any (appT C x) vn vs un us W hn hs gn gs (app_short C x).1 (app_short C x).2.1)
        have CE := hide (fun (va vb : Value) W (ha : SeqV W va (appV C x)) (hb : SeqV W vb (appV C x)) => rsameE_any (appV C x) va vb W ha hb (app_short C x).2.2)
        have KG := hide (fun h => app_good (t := C) (x := x) h)
        obtain ⟨T, hT⟩ : ∃ T, appT C x = T := ⟨_, rfl⟩
        obtain ⟨V, hV⟩ : ∃ V, appV C x = V := ⟨_, rfl⟩
        obtain ⟨E, hE⟩ : ∃ E, appE C x = E := ⟨_, rfl⟩
        rw [hT, hV, hE] at CX CY
        rw [hT, hE] at KG
        rw [hT] at CS
        rw [hV] at CE
        clear hT hV hE hx l0 l1 l2 l3 l4 l5 l6 hxd CA CR fin
        have hk0 : (0 : Int) ≤ (k : Int) := by omega
        have hk1 : (k : Int) < (ts.length : Int) := by omega
        go_upto_region 5 with fail
        go_cut [6, 7, 8] from 14 to 62 (fun t6 t7 t8 wx => ∃ p bn dn bi di be de, t6 = .pointer (some ⟨p, 0, none⟩) ∧ t7 = .slice be V.length de ∧ t8 = .int .i64 E ∧ Hid (AppX wr wx p T V (.slice bn T.ns.length dn) (.slice bi T.ss.length di) (.slice be V.length de)))
        case first =>
          clear HKL HSL KG CY CS CE Q0
          go_region_held3 (fun w' => w'.cell? ⟨q, 0, none⟩ = some (.int .i64 C.z) ∧ w'.cell? ⟨q, 1, none⟩ = some (.slice an C.ns.length cn) ∧ w'.cell? ⟨q, 2, none⟩ = some (.slice ai C.ss.length ci) ∧ w'.cell? ⟨lb, lo + k * 7, none⟩ = some (.int .i64 x.z) ∧ w'.cell? ⟨lb, lo + k * 7 + 1, none⟩ = some (.int .i64 x.o) ∧ w'.cell? ⟨lb, lo + k * 7 + 2, none⟩ = some (.int .i64 x.s) ∧ w'.cell? ⟨lb, lo + k * 7 + 3, none⟩ = some (.string ⟨x.p.toArray⟩) ∧ w'.cell? ⟨lb, lo + k * 7 + 4, none⟩ = some (.string ⟨x.d.toArray⟩) ∧ w'.cell? ⟨lb, lo + k * 7 + 5, none⟩ = some (.int .i64 x.v) ∧ w'.cell? ⟨lb, lo + k * 7 + 6, none⟩ = some (.int .i64 x.w)) (first | with_reducible exact (unhide R0).ten | with_reducible exact (unhide R0).drew.ten | with_reducible exact ((unhide R0).next (allocB _ _)).ten | with_reducible exact ((unhide R0).next (allocB _ _)).drew.ten | with_reducible exact ((unhide R0).drew.next (allocB _ _)).ten | with_reducible exact (unhide aR5).ten | with_reducible exact ((unhide aR5).next (allocB _ _)).ten | with_reducible exact ((unhide R0).next (unhide aP5).b).ten) (first
            | (go_at_call 5; refine (unhide CX _ _ _ ((unhide hC).n1.next (by first | with_reducible exact (Below.refl _ _).drew | with_reducible exact (allocB _ _).drew | with_reducible exact nnext (Below.refl _ _).drew (allocB _ _))) ((unhide hC).s1.next (by first | with_reducible exact (Below.refl _ _).drew | with_reducible exact (allocB _ _).drew | with_reducible exact nnext (Below.refl _ _).drew (allocB _ _)))).mono ?_; rintro e aw5 ⟨vn5, vs5, ve5, rfl, n5, s5, e5, hb5⟩; have aB5 : Hid (Below wr.heap.size wr aw5) := hide (nnext (by first | with_reducible exact (Below.refl _ _).drew | with_reducible exact (allocB _ _).drew | with_reducible exact nnext (Below.refl _ _).drew (allocB _ _)) hb5); have aR5 := hide ((unhide R0).next (unhide aB5)); have h5 := (unhide aB5).size; obtain ⟨bn, dn, rfl, _⟩ := n5.slice; obtain ⟨bi, di, rfl, _⟩ := s5.slice; obtain ⟨be, de, rfl, _⟩ := e5.slice; have aM5 := hide n5; have aM6 := hide s5; have aM7 := hide e5; (try (have aZ5 : Hid (aw5.heap[wr.heap.size]? = some (.cells #[.int .i64 0, .slice none 0 0, .slice none 0 0] 25 (0, 0))) := hide ((hb5.block _ (by simp)).trans (heap_alloc_new wr _)); have aP5 := hide (app_put (unhide aB5) (Nat.le_refl _) (by simp) (unhide aZ5) (unhide aM5) (unhide aM6) (unhide aM7)); obtain ⟨z0, z1, z2, z3, z4, z5⟩ := zcells (unhide aZ5))); clear n5 s5 e5 hb5))
          all_goals go_wp2_with fail
          all_goals go_meet
          all_goals first
            | exact ⟨wr.heap.size, bn, dn, bi, di, be, de, rfl, rfl, rfl, aP5⟩
            | exact ⟨aw5.heap.size, bn, dn, bi, di, be, de, rfl, rfl, rfl, hide (app_new (unhide aB5) (Nat.le_refl _) (unhide aM5) (unhide aM6) (unhide aM7))⟩
        case rest =>
          obtain ⟨p, un, dn1, ui, di1, ue, de1, rfl, rfl, rfl, A1⟩ := hcut
          have hC1 := hide ((unhide hC).next (unhide A1).b)
          have Q1 := hide ((unhide Q0).next (unhide A1).b)
          have hpl := (unhide A1).lt
          have hpb := (unhide A1).qb
          clear CX R0 Q0 hC
          go_upto_region 6 with fail
          go_cut [9, 10, 11] from 14 to 62 (fun t9 t10 t11 wx => ∃ p bn dn bi di be de, t9 = .pointer (some ⟨p, 0, none⟩) ∧ t10 = .slice be V.length de ∧ t11 = .int .i64 E ∧ Hid (AppX wc wx p T V (.slice bn T.ns.length dn) (.slice bi T.ss.length di) (.slice be V.length de)))
          case first =>
            clear HKL HSL KG CS CE A1
            go_region_held3 (fun w' => w'.cell? ⟨r, 0, none⟩ = some (.int .i64 C.z) ∧ w'.cell? ⟨r, 1, none⟩ = some (.slice bn C.ns.length dn) ∧ w'.cell? ⟨r, 2, none⟩ = some (.slice bi C.ss.length di) ∧ w'.cell? ⟨lb, lo + k * 7, none⟩ = some (.int .i64 x.z) ∧ w'.cell? ⟨lb, lo + k * 7 + 1, none⟩ = some (.int .i64 x.o) ∧ w'.cell? ⟨lb, lo + k * 7 + 2, none⟩ = some (.int .i64 x.s) ∧ w'.cell? ⟨lb, lo + k * 7 + 3, none⟩ = some (.string ⟨x.p.toArray⟩) ∧ w'.cell? ⟨lb, lo + k * 7 + 4, none⟩ = some (.string ⟨x.d.toArray⟩) ∧ w'.cell? ⟨lb, lo + k * 7 + 5, none⟩ = some (.int .i64 x.v) ∧ w'.cell? ⟨lb, lo + k * 7 + 6, none⟩ = some (.int .i64 x.w)) (first | with_reducible exact (unhide Q1).ten | with_reducible exact (unhide Q1).drew.ten | with_reducible exact ((unhide Q1).next (allocB _ _)).ten | with_reducible exact ((unhide Q1).next (allocB _ _)).drew.ten | with_reducible exact ((unhide Q1).drew.next (allocB _ _)).ten | with_reducible exact (unhide bR5).ten | with_reducible exact ((unhide bR5).next (allocB _ _)).ten | with_reducible exact ((unhide Q1).next (unhide bP5).b).ten) (first
              | (go_at_call 7; refine (unhide CY _ _ _ ((unhide hC1).n2.next (by first | with_reducible exact (Below.refl _ _).drew | with_reducible exact (allocB _ _).drew | with_reducible exact nnext (Below.refl _ _).drew (allocB _ _))) ((unhide hC1).s2.next (by first | with_reducible exact (Below.refl _ _).drew | with_reducible exact (allocB _ _).drew | with_reducible exact nnext (Below.refl _ _).drew (allocB _ _)))).mono ?_; rintro e bw5 ⟨vn5, vs5, ve5, rfl, n5, s5, e5, hb5⟩; have bB5 : Hid (Below wc.heap.size wc bw5) := hide (nnext (by first | with_reducible exact (Below.refl _ _).drew | with_reducible exact (allocB _ _).drew | with_reducible exact nnext (Below.refl _ _).drew (allocB _ _)) hb5); have bR5 := hide ((unhide Q1).next (unhide bB5)); have h5 := (unhide bB5).size; obtain ⟨bn, dn, rfl, _⟩ := n5.slice; obtain ⟨bi, di, rfl, _⟩ := s5.slice; obtain ⟨be, de, rfl, _⟩ := e5.slice; have bM5 := hide n5; have bM6 := hide s5; have bM7 := hide e5; (try (have bZ5 : Hid (bw5.heap[wc.heap.size]? = some (.cells #[.int .i64 0, .slice none 0 0, .slice none 0 0] 25 (0, 0))) := hide ((hb5.block _ (by simp)).trans (heap_alloc_new wc _)); have bP5 := hide (app_put (unhide bB5) (Nat.le_refl _) (by simp) (unhide bZ5) (unhide bM5) (unhide bM6) (unhide bM7)); obtain ⟨z0, z1, z2, z3, z4, z5⟩ := zcells (unhide bZ5))); clear n5 s5 e5 hb5))
            all_goals go_wp2_with fail
            all_goals go_meet
            all_goals first
              | exact ⟨wc.heap.size, bn, dn, bi, di, be, de, rfl, rfl, rfl, bP5⟩
              | exact ⟨bw5.heap.size, bn, dn, bi, di, be, de, rfl, rfl, rfl, hide (app_new (unhide bB5) (Nat.le_refl _) (unhide bM5) (unhide bM6) (unhide bM7))⟩
          case rest =>
            obtain ⟨p2, bn2, dn2, bi2, di2, be2, de2, rfl, rfl, rfl, A2⟩ := hcut
            have A3 := hide ((unhide A1).next (unhide A2).b)
            have hC2 := hide ((unhide hC1).next (unhide A2).b)
            have hpl2 := (unhide A2).lt
            have hpb2 := (unhide A2).qb
            have hws := (unhide A1).b.size
            obtain ⟨c0, c1, c2⟩ := (unhide A3).cells
            obtain ⟨d0, d1, d2⟩ := (unhide A2).cells
            clear CY Q1 hC1 A1 HKL HSL
            go_wp2_with fail
            refine (unhide CS _ _ _ _ _ (unhide A3).n.seq (unhide A3).s.seq (unhide A2).n.seq (unhide A2).s.seq).mono ?_
            rintro e w8 ⟨rfl, hb8⟩
            have A4 := hide ((unhide A3).next hb8)
            have A5 := hide ((unhide A2).next hb8)
            have hC3 := hide ((unhide hC2).next hb8)
            clear hb8 c0 c1 c2 d0 d1 d2 A3 A2 hC2 CS
            go_wp2_with fail
            refine (unhide CE _ _ _ (unhide A4).e.seq (unhide A5).e.seq).mono ?_
            rintro e w9 ⟨rfl, hb9⟩
            have A6 := hide ((unhide A4).next hb9)
            have A7 := hide ((unhide A5).next hb9)
            have hC4 := hide ((unhide hC3).next hb9)
            clear hb9 A4 A5 hC3 CE
            by_cases hE : E = 0
            · have gT := (unhide KG hE).1
              subst hE
              have CP := hide ((unhide hC4).put (T := T) (an := .slice un T.ns.length dn1) (ai := .slice ui T.ss.length di1) (bn := .slice bn2 T.ns.length dn2) (bi := .slice bi2 T.ss.length di2) (B := wr.heap.size) hql hrl (unhide A6).n (unhide A6).s ((unhide A7).n.lower hws) ((unhide A7).s.lower hws) gT rfl)
              obtain ⟨c0, c1, c2⟩ := (unhide A6).cells
              obtain ⟨d0, d1, d2⟩ := (unhide A7).cells
              obtain ⟨⟨e0, e1, e2⟩, g0, g1, g2⟩ := (unhide hC4).cells
              obtain ⟨⟨f0, f1, f2⟩, k0, k1, k2⟩ := (unhide hC4).cold
              have n1 : q ≠ p := by omega
              have n2 : q ≠ p2 := by omega
              have n3 : r ≠ p := by omega
              have n4 : r ≠ p2 := by omega
              clear KG A6 A7 hC4 gT
              go_upto_region 10 with fail
              go_region
              all_goals go_wp2_with fail
              go_roundg (ts.length - (k + 1))
              case measure => omega
              case rel => exact ⟨k + 1, T, un, dn1, ui, di1, bn2, dn2, bi2, di2, rfl, by omega, by omega, Nat.le_refl _, hide ((unhide CP).next (Below.refl _ _).drew)⟩
            · have hEb : (E == 0) = false := by simpa using hE
              clear KG A6 A7 hE
              go_wp2_with fail
              go_roundg (ts.length - (k + 1))
              case measure => omega
              case rel => exact ⟨k + 1, C, an, cn, ai, ci, bn, dn, bi, di, rfl, by omega, by omega, Nat.le_refl _, hC4⟩
      · obtain rfl : k = 120 := by omega
        obtain ⟨⟨e0, e1, e2⟩, g0, g1, g2⟩ := (unhide hC).cells
        clear CA CR HKL HSL
        go_wp2_with fail
        refine (unhide fin).mono ?_
        rintro e w4 ⟨rfl, hb4⟩
        have B4 := hide (nnext (unhide hC).b hb4)
        clear hb4
        go_wp2_with fail
        go_ret
        exact ⟨rfl, unhide B4⟩
    · obtain rfl : k = ts.length := by omega
      obtain ⟨⟨e0, e1, e2⟩, g0, g1, g2⟩ := (unhide hC).cells
      clear CA CR HKL HSL
      go_wp2_with fail
      refine (unhide fin).mono ?_
      rintro e w4 ⟨rfl, hb4⟩
      have B4 := hide (nnext (unhide hC).b hb4)
      clear hb4
      go_wp2_with fail
      go_ret
      exact ⟨rfl, unhide B4⟩
end Go.Proofs.YtabmelioindmlaaDoor
