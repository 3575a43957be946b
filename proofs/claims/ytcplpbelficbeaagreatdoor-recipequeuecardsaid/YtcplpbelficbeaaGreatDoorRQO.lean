/-
  What growth's open, owned and close do: the walks.
  Copies of a tree (aviarykeep.own, aviaryref.CopyTree), tree.New and tree.Get: the walks.
  tree.Get and tree.Kids: the walks.
-/
import Derived.Test.YtcplpbelficbeaaGreatDoorRQJ
import Derived.Deep.CutRange
namespace Go.Proofs.YtcplpbelficbeaaGreatDoor
open Go.RowKit

theorem one_newI (w : World) (x : Int) : OneR (w.alloc (.cells #[.int .i64 x] 3)) w.heap.size x := heap_alloc_new w _
theorem one_newS (w : World) (x : List UInt8) : OneR (w.alloc (.cells #[.string ⟨x.toArray⟩] 9)) w.heap.size x := heap_alloc_new w _

set_option maxRecDepth 20000 in
set_option maxHeartbeats 2000000 in
theorem gopen_ok (F : Nat → Prop) (b : Nat) (z : Int) (vn vs ve : Value) (ns : List Nd) (ss A B : List Int) (es : List Ev) (s : Int) (w : World)
    (h : Grow w F b z vn vs ve ns ss es) (hF : ∀ k, w.heap.size ≤ k → F k) (G : SGap ss A B s) (hl : ss.length ≤ 2147483646) :
    Calls Tryz.prog 38 #[.pointer (some ⟨b, 0, none⟩), .int .i64 s] w fun e w' => e = .returned (.tuple #[]) ∧ ∃ vs', Grow w' F b z vn vs' ve ns (A ++ s :: B) es ∧ Touch F w w' := by
  have CF := ibs_gap vs ss A B s w h.s.seq (by omega) G
  have h0 := (h.next (allocB w (.cells #[.int .i64 s] 3)))
  have CI := iinsert_any vs A B s w.heap.size _ (by rw [← G.eq]; exact h0.s) (by rw [← G.eq]; omega) (one_newI w s) (fun e => by have := h.s.low _ e; omega)
  have c2 := h.c2
  have HG0 := hide h0
  have HF := hide hF
  have hbl := h.lt
  obtain ⟨sa, sc, rfl, _⟩ := h.s.slice
  have HCI := hide CI
  clear h h0 hF G CI
  go_enter Tryz.func38, Tryz.ntmps38
  go_wp2_with fail
  refine CF.mono ?_
  rintro e w1 ⟨rfl, rfl⟩
  go_wp2_with fail
  refine (unhide HCI).mono ?_
  rintro e w2 ⟨v', rfl, ho, hg, hloc⟩
  have n2 : ¬ (Value.slice sa ss.length sc).ownBlock = some b := fun e => ((unhide HG0).fs b e).2 rfl
  have m2 : w2.cell? ⟨b, 2, none⟩ = some (.slice sa ss.length sc) := hg.cell (unhide HG0).c2 (fun e => n2 e.symm)
  have l2 : w2.frozen? ⟨b, 2, none⟩ = false := (World.frozen?_of_block (hg.block b (unhide HG0).lt (fun e => n2 e.symm))).trans ((unhide HG0).fz 2)
  have g2 := (unhide HG0).se (vs' := v') (ss' := A ++ s :: B) (fun k hk => unhide HF k (by simp at hk; omega)) hg ho hloc
  have t2 : Touch F w1 (w2.setCell ⟨b, 2, none⟩ v') := ((Touch.of_below (allocB w1 _)).trans (Touch.of_grown hg (fun k e => ((unhide HG0).fs k e).1))).trans (Touch.set (unhide HG0).fb _)
  obtain ⟨va, L, vc, rfl⟩ : ∃ va L vc, v' = .slice va L vc := by obtain ⟨va, vc, h, _⟩ := ho.slice; exact ⟨_, _, _, h⟩
  have HG2 := hide g2
  have HT2 := hide t2
  clear g2 t2 ho hg hloc n2
  go_wp2_with fail
  go_end0
  exact ⟨rfl, _, unhide HG2, unhide HT2⟩

/- owned -/
theorem sinfo0 : (Tryz.prog.info? 9).map (fun i => (i.zero, i.size, i.bytes)) = some (some (.string ⟨#[]⟩), 1, 16) := by kernel_rfl
theorem sinfo : ∃ i0, Tryz.prog.info? 9 = some i0 ∧ i0.zero = some (.string ⟨#[]⟩) ∧ i0.size = 1 ∧ i0.bytes = 16 := by
  obtain ⟨i0, h, e⟩ := Option.map_eq_some_iff.1 sinfo0
  simp only [Prod.mk.injEq] at e
  exact ⟨i0, h, e⟩
theorem owned_take {ns : List Nd} {k : Nat} {x : Nd} (hx : ns[k]? = some x) (s : Int) : ownedP (ns.take (k + 1)) s = ownedP (ns.take k) s ++ (if x.o = s then [x.p] else []) := by
  rw [List.take_add_one, hx]
  simp only [ownedP, Option.toList_some, List.filter_append, List.map_append, List.filter_cons, List.filter_nil, decide_eq_true_eq]
  split <;> simp
theorem owned_len (ns : List Nd) (s : Int) : (ownedP ns s).length ≤ ns.length := by
  rw [ownedP, List.length_map]
  exact List.length_filter_le _ _
set_option maxRecDepth 20000 in
set_option maxHeartbeats 4000000 in
theorem owned_any (F : Nat → Prop) (b : Nat) (z : Int) (vn vs ve : Value) (ns : List Nd) (ss : List Int) (es : List Ev) (s : Int) (w : World)
    (h : Grow w F b z vn vs ve ns ss es) (hl : ns.length ≤ 400) (h0 : ns ≠ []) :
    Calls Tryz.prog 58 #[.pointer (some ⟨b, 0, none⟩), .int .i64 s] w fun e w' => ∃ v', e = .returned v' ∧ OwnS w' w.heap.size v' (ownedP ns s) ∧ Below w.heap.size w w' := by
  obtain ⟨i0, hi0, hz0, hz1, hz2⟩ := sinfo
  obtain ⟨g, cap, rfl, hr, hgb, hFg⟩ := h.nrow h0
  have hgl := hr.lt
  have c1 := h.c1
  have H := hide hr.row
  clear h hr
  go_enter Tryz.func58, Tryz.ntmps58
  go_wp2_with fail
  go_loopg [5, 14] ns.length (fun kx s5 s14 wr => ∃ k : Nat, s14 = .int .i64 k ∧ k ≤ ns.length ∧ ns.length - k ≤ kx ∧ Hid (OwnS wr w.heap.size s5 (ownedP (ns.take k) s)) ∧ Hid (Below w.heap.size w wr))
  case atStart => exact ⟨0, rfl, Nat.zero_le _, Nat.le_refl _, hide (.inl ⟨rfl, rfl⟩), hide (Below.refl _ _)⟩
  case round =>
    obtain ⟨k, rfl, hk, hg, hO, hB⟩ := hrel
    by_cases hlt : k < ns.length
    · obtain ⟨x, hx⟩ : ∃ x, ns[k]? = some x := ⟨_, List.getElem?_eq_getElem hlt⟩
      have q := (unhide H).kept (unhide hB) hgl
      have d0 := q.n0 hx
      have d1 := q.n1 hx
      have d2 := q.n2 hx
      have d3 := q.n3 hx
      have d4 := q.n4 hx
      have d5 := q.n5 hx
      have d6 := q.n6 hx
      have d7 := q.n7 hx
      have d8 := q.n8 hx
      rw [Nat.zero_add] at d0 d1 d2 d3 d4 d5 d6 d7 d8
      have hbw : g < wr.heap.size := Nat.lt_of_lt_of_le hgl (unhide hB).size
      have HT := hide (owned_take hx s)
      have hln := owned_len (ns.take k) s
      simp only [List.length_take] at hln
      clear q hx
      obtain ⟨va, vc, rfl, _⟩ := (unhide hO).slice
      have hrow := (unhide hO).row
      by_cases hs : x.o = s
      · have hsb : (x.o == s) = true := by simpa using hs
        have HS := hide hs
        clear hs
        obtain ⟨P, hP⟩ : ∃ P, ownedP (ns.take k) s = P := ⟨_, rfl⟩
        rw [hP] at hO hln HT hrow
        rw [hP]
        clear hP
        have HRW := hide hrow
        clear hrow
        go_wp2_with (at_builtin; refine wpList_append_own _ rfl _ _ 41 rfl w.heap.size 9 i0 _ 1 16 Tryz.underlying41 hi0 hz0 hz1 hz2 rfl (by decide) _ P.length (cellsL P) rfl ((((unhide hO).next (allocB wr (.cells #[.string ⟨x.p.toArray⟩, .string ⟨x.d.toArray⟩, .int .i64 x.c, .int .i64 x.m, .int .i64 x.q, .int .i64 x.v, .int .i64 x.k, .int .i64 x.o, .int .i64 x.n] 52))).next (allocB _ _)).row) ⟨wr.heap.size + 1, 0, none⟩ 1 1 [.string ⟨x.p.toArray⟩] rfl (by rfl) ?qc2 (by intro u hu; simp at hu; subst hu; rfl) ?qc4 ?qc5 ?qc6 ?_)
        case qc2 =>
          intro j u hj
          have := one_news (one_newS (wr.alloc (.cells #[.string ⟨x.p.toArray⟩, .string ⟨x.d.toArray⟩, .int .i64 x.c, .int .i64 x.m, .int .i64 x.q, .int .i64 x.v, .int .i64 x.k, .int .i64 x.o, .int .i64 x.n] 52)) x.p) j u hj
          simpa using this
        case qc4 => simp only [maxLen]; omega
        case qc5 => omega
        case qc6 => have := (unhide hB).size; simp; omega
        intro v' w1 hown hgrow _
        have O1 : OwnS w1 w.heap.size v' (P ++ [x.p]) := OwnS.of_row (by rw [List.length_append, cellsL_snoc]; exact hown)
        have hB0 : Below w.heap.size w ((wr.alloc (.cells #[.string ⟨x.p.toArray⟩, .string ⟨x.d.toArray⟩, .int .i64 x.c, .int .i64 x.m, .int .i64 x.q, .int .i64 x.v, .int .i64 x.k, .int .i64 x.o, .int .i64 x.n] 52)).alloc (.cells #[.string ⟨x.p.toArray⟩] 9)) := nnext (unhide hB) (nnext (allocB _ _) (allocB _ _))
        have B1 : Below w.heap.size w w1 := hB0.grown hgrow hB0.size (fun j hj => by
          rcases unhide hO with ⟨e, _⟩ | ⟨q, c, e, hq, _⟩
          · rw [e] at hj; cases hj
          · rw [e] at hj; cases hj; exact hq)
        have HO1 := hide O1
        have HB1 := hide B1
        obtain ⟨wa, wc, rfl, _⟩ := O1.slice
        clear O1 B1 hB0 hown hgrow
        go_wp2_with fail
        go_roundg (ns.length - (k + 1))
        case measure => omega
        case rel => exact ⟨k + 1, rfl, by omega, Nat.le_refl _, (by rw [unhide HT, if_pos (unhide HS)]; exact HO1), HB1⟩
      · have hsb : (x.o == s) = false := by simpa using hs
        have HS := hide hs
        have HO1 := hide ((unhide hO).next (allocB wr (.cells #[.string ⟨x.p.toArray⟩, .string ⟨x.d.toArray⟩, .int .i64 x.c, .int .i64 x.m, .int .i64 x.q, .int .i64 x.v, .int .i64 x.k, .int .i64 x.o, .int .i64 x.n] 52)))
        clear hs hrow
        go_wp2_with fail
        go_roundg (ns.length - (k + 1))
        case measure => omega
        case rel => exact ⟨k + 1, rfl, by omega, Nat.le_refl _, (by rw [unhide HT, if_neg (unhide HS), List.append_nil]; exact HO1), hide (nnext (unhide hB) (allocB _ _))⟩
    · obtain rfl : k = ns.length := by omega
      have O1 := unhide hO
      rw [List.take_length] at O1
      have HO1 := hide O1
      obtain ⟨wa, wc, rfl, _⟩ := O1.slice
      clear O1
      go_wp2_with fail
      go_ret
      exact ⟨_, rfl, unhide HO1, unhide hB⟩

end Go.Proofs.YtcplpbelficbeaaGreatDoor

namespace Go.Proofs.YtcplpbelficbeaaGreatDoor
open Go.RowKit

/- append(nil, l...) -/
/-- a tree's box at q, a box for the answer behind it -/
structure OB (w W : World) (z : Int) (vn vs : Value) : Prop where
  t : W.heap[w.heap.size]? = some (.cells #[.int .i64 z, vn, vs] 26 (0, 0))
  r : W.heap[w.heap.size + 1]? = some (.cells #[.int .i64 0, .slice none 0 0, .slice none 0 0] 26 (0, 0))
  b : Below w.heap.size w W
theorem OB.new (w : World) (z : Int) (vn vs : Value) : OB w ((w.alloc (.cells #[.int .i64 z, vn, vs] 26)).alloc (.cells #[.int .i64 0, .slice none 0 0, .slice none 0 0] 26)) z vn vs := by
  refine ⟨?_, ?_, nnext (allocB _ _) (allocB _ _)⟩
  · rw [(allocB _ _).block _ (by simp)]
    exact heap_alloc_new w _
  · have h := heap_alloc_new (w.alloc (.cells #[.int .i64 z, vn, vs] 26)) (.cells #[.int .i64 0, .slice none 0 0, .slice none 0 0] 26)
    rw [show (w.alloc (.cells #[.int .i64 z, vn, vs] 26)).heap.size = w.heap.size + 1 by simp] at h
    exact h
theorem OB.lt {w W : World} {z : Int} {vn vs : Value} (h : OB w W z vn vs) : w.heap.size + 1 < W.heap.size := (Array.getElem?_eq_some_iff.1 h.r).1
theorem OB.next {w W V : World} {z : Int} {vn vs : Value} (h : OB w W z vn vs) (hb : Below W.heap.size W V) : OB w V z vn vs := by
  have := h.lt
  exact ⟨(hb.block _ (by omega)).trans h.t, (hb.block _ (by omega)).trans h.r, nnext h.b hb⟩
theorem OB.drew {w W : World} {z : Int} {vn vs : Value} (h : OB w W z vn vs) : OB w W.drew z vn vs := h.next (Below.refl _ _).drew
theorem grown_below {W V : World} (h : W.grownBy V none) : Below W.heap.size W V := ⟨h.os, h.tape, h.output, h.size, fun k hk => h.block k hk (by simp)⟩
theorem OB.grown {w W V : World} {z : Int} {vn vs : Value} (h : OB w W z vn vs) (hg : W.grownBy V none) : OB w V z vn vs := h.next (grown_below hg)
theorem OB.cells {w W : World} {z : Int} {vn vs : Value} (h : OB w W z vn vs) : W.cell? ⟨w.heap.size, 0, none⟩ = some (.int .i64 z) ∧ W.cell? ⟨w.heap.size, 1, none⟩ = some vn ∧ W.cell? ⟨w.heap.size, 2, none⟩ = some vs ∧ W.frozen? ⟨w.heap.size, 1, none⟩ = false ∧ W.frozen? ⟨w.heap.size, 2, none⟩ = false := by
  have h1 := h.t
  refine ⟨?_, ?_, ?_, ?_, ?_⟩ <;> simp [World.cell?, World.frozen?, h1]
theorem OB.put {w W : World} {z : Int} {vn vs : Value} (h : OB w W z vn vs) (v : Value) (c : Nat) (vn' vs' : Value) (hc : (#[.int .i64 z, vn, vs] : Array Value).set! c v = #[.int .i64 z, vn', vs']) : OB w (W.setCell ⟨w.heap.size, c, none⟩ v) z vn' vs' := by
  refine ⟨?_, (Below.heap_setCell _ _ _ _ (by simp)).trans h.r, h.b.setCell (by simp) _⟩
  rw [block_set v h.t, ← hc]
  simp
/-- copied, but for the answer -/
def OwnQ (w : World) (z : Int) (ns : List Nd) (ss : List Int) (wx : World) : Prop :=
  ∃ an cn ai ci, OB w wx z (.slice an ns.length cn) (.slice ai ss.length ci) ∧ OwnS wx (w.heap.size + 2) (.slice an ns.length cn) ns ∧ OwnS wx (w.heap.size + 2) (.slice ai ss.length ci) ss
theorem OwnQ.next {w W V : World} {z : Int} {ns : List Nd} {ss : List Int} (h : OwnQ w z ns ss W) (hb : Below W.heap.size W V) : OwnQ w z ns ss V := by
  obtain ⟨an, cn, ai, ci, h1, h2, h3⟩ := h
  exact ⟨an, cn, ai, ci, h1.next hb, h2.next hb, h3.next hb⟩
/-- what a copy gives -/
def GivesT (w : World) (t : Tr) (e : Ending) (w' : World) : Prop :=
  ∃ vn vs, e = .returned (.agg #[.int .i64 t.z, vn, vs]) ∧ OwnS w' w.heap.size vn t.ns ∧ OwnS w' w.heap.size vs t.ss ∧ Below w.heap.size w w'
/- New, Get -/
theorem one_root (w : World) : OwnS (w.alloc (.cells #[.string ⟨#[47]⟩, .string ⟨#[]⟩, .int .i64 0, .int .i64 0, .int .i64 0, .int .i64 0, .int .i64 0, .int .i64 0, .int .i64 0] 52)) w.heap.size (.slice (some ⟨w.heap.size, 0, none⟩) 1 1) [nroot] :=
  .inr ⟨w.heap.size, 1, rfl, Nat.le_refl _, [], by rw [heap_alloc_new]; rfl, by decide, by decide, by decide⟩
set_option maxRecDepth 20000 in
set_option maxHeartbeats 1000000 in
theorem tnew_any (w : World) : Calls Tryz.prog 5 #[] w (GivesT w trNew) := by
  have H : Hid (GivesT w trNew (.returned (.agg #[.int .i64 0, .slice (some ⟨w.heap.size + 1, 0, none⟩) 1 1, .slice none 0 0])) ((w.alloc (.cells #[.int .i64 0, .slice (some ⟨w.heap.size + 1, 0, none⟩) 1 1, .slice none 0 0] 26)).alloc (.cells #[.string ⟨#[47]⟩, .string ⟨#[]⟩, .int .i64 0, .int .i64 0, .int .i64 0, .int .i64 0, .int .i64 0, .int .i64 0, .int .i64 0] 52))) := by
    have h := one_root (w.alloc (.cells #[.int .i64 0, .slice (some ⟨w.heap.size + 1, 0, none⟩) 1 1, .slice none 0 0] 26))
    rw [show (w.alloc (.cells #[.int .i64 0, .slice (some ⟨w.heap.size + 1, 0, none⟩) 1 1, .slice none 0 0] 26)).heap.size = w.heap.size + 1 by simp] at h
    exact ⟨_, _, rfl, h.lower (by omega), .inl ⟨rfl, rfl⟩, nnext (allocB _ _) (allocB _ _)⟩
  go_enter Tryz.func5, Tryz.ntmps5
  go_wp2_with fail
  exact bodyPost_ret (v := .agg #[.int .i64 0, .slice (some ⟨w.heap.size + 1, 0, none⟩) 1 1, .slice none 0 0]) (by simp [results, Tryz.results5, go_sem]) rfl (unhide H)
end Go.Proofs.YtcplpbelficbeaaGreatDoor

namespace Go.Proofs.YtcplpbelficbeaaGreatDoor
open Go.RowKit

/-- a tree's box, and a node's for the answer -/
structure GB (w W : World) (z : Int) (vn vs : Value) : Prop where
  t : W.heap[w.heap.size]? = some (.cells #[.int .i64 z, vn, vs] 26 (0, 0))
  r : W.heap[w.heap.size + 1]? = some (.cells #[.string ⟨#[]⟩, .string ⟨#[]⟩, .int .i64 0, .int .i64 0, .int .i64 0, .int .i64 0, .int .i64 0, .int .i64 0, .int .i64 0] 52 (0, 0))
  b : Below w.heap.size w W
theorem GB.new (w : World) (z : Int) (vn vs : Value) : GB w ((w.alloc (.cells #[.int .i64 z, vn, vs] 26)).alloc (.cells #[.string ⟨#[]⟩, .string ⟨#[]⟩, .int .i64 0, .int .i64 0, .int .i64 0, .int .i64 0, .int .i64 0, .int .i64 0, .int .i64 0] 52)) z vn vs := by
  refine ⟨?_, ?_, nnext (allocB _ _) (allocB _ _)⟩
  · rw [(allocB _ _).block _ (by simp)]
    exact heap_alloc_new w _
  · have h := heap_alloc_new (w.alloc (.cells #[.int .i64 z, vn, vs] 26)) (.cells #[.string ⟨#[]⟩, .string ⟨#[]⟩, .int .i64 0, .int .i64 0, .int .i64 0, .int .i64 0, .int .i64 0, .int .i64 0, .int .i64 0] 52)
    rw [show (w.alloc (.cells #[.int .i64 z, vn, vs] 26)).heap.size = w.heap.size + 1 by simp] at h
    exact h
theorem GB.lt {w W : World} {z : Int} {vn vs : Value} (h : GB w W z vn vs) : w.heap.size + 1 < W.heap.size := (Array.getElem?_eq_some_iff.1 h.r).1
theorem GB.next {w W V : World} {z : Int} {vn vs : Value} (h : GB w W z vn vs) (hb : Below W.heap.size W V) : GB w V z vn vs := by
  have := h.lt
  exact ⟨(hb.block _ (by omega)).trans h.t, (hb.block _ (by omega)).trans h.r, nnext h.b hb⟩
theorem GB.c1 {w W : World} {z : Int} {vn vs : Value} (h : GB w W z vn vs) : W.cell? ⟨w.heap.size, 1, none⟩ = some vn := by simp [World.cell?, h.t]
theorem GB.one {w W : World} {z : Int} {vn vs : Value} (h : GB w W z vn vs) : OneR W (w.heap.size + 1) nzero := h.r

set_option maxRecDepth 20000 in
set_option maxHeartbeats 2000000 in
theorem tget_gap (z : Int) (vn vs : Value) (ns A B : List Nd) (p : List UInt8) (w : World) (hn : SeqV w vn ns) (hl : ns.length ≤ 100000) (G : NGap ns A B p) :
    Calls Tryz.prog 26 #[.agg #[.int .i64 z, vn, vs], .string ⟨p.toArray⟩] w fun e w' => e = .returned (.tuple #[nodeV nzero, .int .i64 7]) ∧ Below w.heap.size w w' := by
  have CF := hide (fun W (hW : Below w.heap.size w W) => nfind_gap vn ns A B p W (hn.next hW) hl G)
  have B0 := hide (GB.new w z vn vs)
  obtain ⟨na, nc, rfl⟩ := seq_slice hn
  clear hn G
  go_enter Tryz.func26, Tryz.ntmps26
  go_wp2_with fail
  refine (unhide CF _ (unhide B0).b).mono ?_
  rintro e w1 ⟨rfl, hb1⟩
  have b1 := (unhide B0).next hb1
  have o1 := b1.one
  have c0 := o1.cellN 0 _ rfl
  have c1 := o1.cellN 1 _ rfl
  have c2 := o1.cellN 2 _ rfl
  have c3 := o1.cellN 3 _ rfl
  have c4 := o1.cellN 4 _ rfl
  have c5 := o1.cellN 5 _ rfl
  have c6 := o1.cellN 6 _ rfl
  have c7 := o1.cellN 7 _ rfl
  have c8 := o1.cellN 8 _ rfl
  have f0 := o1.frozenN 0
  have f1 := o1.frozenN 1
  have f2 := o1.frozenN 2
  have f3 := o1.frozenN 3
  have f4 := o1.frozenN 4
  have f5 := o1.frozenN 5
  have f6 := o1.frozenN 6
  have f7 := o1.frozenN 7
  have f8 := o1.frozenN 8
  have BB := b1.b
  have HBB := hide BB
  clear CF B0 hb1 b1 o1 BB
  go_wp2_with fail
  have BB := unhide HBB
  exact bodyPost_ret (v := .tuple #[nodeV nzero, .int .i64 7]) (by simp [results, Tryz.results26, go_sem, nodeV, nzero, c0, c1, c2, c3, c4, c5, c6, c7, c8]) rfl
    ⟨rfl, ((((((((BB.setCell (by simp) _).setCell (by simp) _).setCell (by simp) _).setCell (by simp) _).setCell (by simp) _).setCell (by simp) _).setCell (by simp) _).setCell (by simp) _).setCell (by simp) _⟩

set_option maxRecDepth 20000 in
set_option maxHeartbeats 2000000 in
theorem tget_there (z : Int) (vn vs : Value) (ns A B : List Nd) (n : Nd) (p : List UInt8) (w : World) (hn : SeqV w vn ns) (hl : ns.length ≤ 100000) (T : NThere ns A n B p) (hp : n.p.length ≤ 140737488355328) (hd : n.d.length ≤ 140737488355328) :
    Calls Tryz.prog 26 #[.agg #[.int .i64 z, vn, vs], .string ⟨p.toArray⟩] w fun e w' => e = .returned (.tuple #[nodeV n, .int .i64 0]) ∧ Below w.heap.size w w' := by
  have CF := hide (fun W (hW : Below w.heap.size w W) => nfind_there vn ns A B n p W (hn.next hW) hl T)
  have CC := hide (fun W => tcopied_any n W hp hd)
  unfold nodeV at CC
  have hlt : A.length < ns.length := by rw [T.eq]; simp
  have hat : ns[A.length]? = some n := by rw [T.eq]; exact nat_at A n B
  obtain ⟨b, off, cap, rfl, hb, hr, _, _⟩ := seq_row hn (by rw [T.eq]; simp)
  have HR := hide (fun W (hW : Below w.heap.size w W) => hr.kept hW hb)
  have B0 := hide (GB.new w z (.slice (some ⟨b, off, none⟩) ns.length cap) vs)
  clear hn T hr
  have HAT := hide hat
  clear hat
  go_enter Tryz.func26, Tryz.ntmps26
  go_wp2_with fail
  refine (unhide CF _ (unhide B0).b).mono ?_
  rintro e w1 ⟨rfl, hb1⟩
  have b1 := (unhide B0).next hb1
  have HB1 := hide b1
  have e1 := b1.c1
  have q := unhide HR w1 b1.b
  have d0 := q.n0 (unhide HAT)
  have d1 := q.n1 (unhide HAT)
  have d2 := q.n2 (unhide HAT)
  have d3 := q.n3 (unhide HAT)
  have d4 := q.n4 (unhide HAT)
  have d5 := q.n5 (unhide HAT)
  have d6 := q.n6 (unhide HAT)
  have d7 := q.n7 (unhide HAT)
  have d8 := q.n8 (unhide HAT)
  clear q CF b1 hb1
  go_wp2_with fail
  refine (unhide CC _).mono ?_
  rintro e w2 ⟨rfl, hb2⟩
  have b2 := (unhide HB1).next hb2
  have o1 := b2.one
  have c0 := o1.cellN 0 _ rfl
  have c1 := o1.cellN 1 _ rfl
  have c2 := o1.cellN 2 _ rfl
  have c3 := o1.cellN 3 _ rfl
  have c4 := o1.cellN 4 _ rfl
  have c5 := o1.cellN 5 _ rfl
  have c6 := o1.cellN 6 _ rfl
  have c7 := o1.cellN 7 _ rfl
  have c8 := o1.cellN 8 _ rfl
  have f0 := o1.frozenN 0
  have f1 := o1.frozenN 1
  have f2 := o1.frozenN 2
  have f3 := o1.frozenN 3
  have f4 := o1.frozenN 4
  have f5 := o1.frozenN 5
  have f6 := o1.frozenN 6
  have f7 := o1.frozenN 7
  have f8 := o1.frozenN 8
  have HBB := hide b2.b
  clear b2 hb2 o1 CC d0 d1 d2 d3 d4 d5 d6 d7 d8 e1
  go_wp2_with fail
  have BB := unhide HBB
  exact bodyPost_ret (v := .tuple #[nodeV n, .int .i64 0]) (by simp [results, Tryz.results26, go_sem, nodeV, c0, c1, c2, c3, c4, c5, c6, c7, c8]) rfl
    ⟨rfl, ((((((((BB.setCell (by simp) _).setCell (by simp) _).setCell (by simp) _).setCell (by simp) _).setCell (by simp) _).setCell (by simp) _).setCell (by simp) _).setCell (by simp) _).setCell (by simp) _⟩

/- Kids -/
def kidsP (ns : List Nd) (p : List UInt8) : List (List UInt8) := (ns.filter fun n => decide (dirOf n.p = p)).map fun n => stepOf n.p
theorem kidsP_take {ns : List Nd} {k : Nat} {x : Nd} (hx : ns[k]? = some x) (p : List UInt8) : kidsP (ns.take (k + 1)) p = kidsP (ns.take k) p ++ (if dirOf x.p = p then [stepOf x.p] else []) := by
  rw [List.take_add_one, hx]
  simp only [kidsP, Option.toList_some, List.filter_append, List.map_append, List.filter_cons, List.filter_nil, decide_eq_true_eq]
  split <;> simp
theorem kidsP_len (ns : List Nd) (p : List UInt8) : (kidsP ns p).length = kidsN ns p := by
  rw [kidsP, List.length_map, kidsN, List.countP_eq_length_filter]

set_option maxRecDepth 20000 in
set_option maxHeartbeats 400000 in
theorem tkids_gap (z : Int) (vn vs : Value) (ns A B : List Nd) (p : List UInt8) (w : World) (hn : SeqV w vn ns) (hl : ns.length ≤ 100000) (G : NGap ns A B p) :
    Calls Tryz.prog 21 #[.agg #[.int .i64 z, vn, vs], .string ⟨p.toArray⟩] w fun e w' => e = .returned (.tuple #[.slice none 0 0, .int .i64 7]) ∧ Below w.heap.size w w' := by
  have CF := hide (fun W (hW : Below w.heap.size w W) => nfind_gap vn ns A B p W (hn.next hW) hl G)
  obtain ⟨na, nc, rfl⟩ := seq_slice hn
  clear hn G
  go_enter Tryz.func21, Tryz.ntmps21
  go_wp2_with fail
  refine (unhide CF _ (allocB _ _)).mono ?_
  rintro e w1 ⟨rfl, hb1⟩
  have HB := hide (nbox_then hb1)
  clear hb1 CF
  go_wp2_with fail
  go_ret2
  exact ⟨rfl, unhide HB⟩

set_option maxRecDepth 20000 in
set_option maxHeartbeats 4000000 in
theorem tkids_there (z : Int) (vn vs : Value) (ns A B : List Nd) (n : Nd) (p : List UInt8) (w : World) (hn : SeqV w vn ns) (hl : ns.length ≤ 400) (T : NThere ns A n B p) :
    Calls Tryz.prog 21 #[.agg #[.int .i64 z, vn, vs], .string ⟨p.toArray⟩] w fun e w' => ∃ v', e = .returned (.tuple #[v', .int .i64 0]) ∧ OwnS w' w.heap.size v' (kidsP ns p) ∧ Below w.heap.size w w' := by
  have CF := hide (fun W (hW : Below w.heap.size w W) => nfind_there vn ns A B n p W (hn.next hW) (by omega) T)
  have CS := hide (fun q W => split_any q W)
  obtain ⟨i0, hi0, hz0, hz1, hz2⟩ := sinfo
  obtain ⟨b, off, cap, rfl, hb, hr, _, _⟩ := seq_row hn (by rw [T.eq]; simp)
  have HR := hide (fun W (hW : Below w.heap.size w W) => hr.kept hW hb)
  clear hn T hr
  go_enter Tryz.func21, Tryz.ntmps21
  go_wp2_with fail
  refine (unhide CF _ (allocB _ _)).mono ?_
  rintro e w1 ⟨rfl, hb1⟩
  have c1 : w1.cell? ⟨w.heap.size, 1, none⟩ = some (.slice (some ⟨b, off, none⟩) ns.length cap) := by rw [hb1.cell (p := ⟨w.heap.size, 1, none⟩) (by simp)]; simp
  have HB := hide (nbox_then hb1)
  have hsz1 := (unhide HB).size
  clear hb1 CF
  go_wp2_with fail
  go_loopg [8, 26] ns.length (fun kx s8 s26 wr => ∃ k : Nat, s26 = .int .i64 k ∧ k ≤ ns.length ∧ ns.length - k ≤ kx ∧ Hid (OwnS wr w.heap.size s8 (kidsP (ns.take k) p)) ∧ Hid (Below w.heap.size w wr))
  case atStart => exact ⟨0, rfl, Nat.zero_le _, Nat.le_refl _, hide (.inl ⟨rfl, rfl⟩), HB⟩
  case round =>
    obtain ⟨k, rfl, hk, hg, hO, hB⟩ := hrel
    by_cases hlt : k < ns.length
    · obtain ⟨x, hx⟩ : ∃ x, ns[k]? = some x := ⟨_, List.getElem?_eq_getElem hlt⟩
      have q := unhide HR wr (unhide hB)
      have d0 := q.n0 hx
      have d1 := q.n1 hx
      have d2 := q.n2 hx
      have d3 := q.n3 hx
      have d4 := q.n4 hx
      have d5 := q.n5 hx
      have d6 := q.n6 hx
      have d7 := q.n7 hx
      have d8 := q.n8 hx
      have hbw : b < wr.heap.size := Nat.lt_of_lt_of_le hb (unhide hB).size
      have HT := hide (kidsP_take hx p)
      have hln : (kidsP (ns.take k) p).length ≤ 400 := by
        rw [kidsP_len]
        have h1 : kidsN (ns.take k) p ≤ (ns.take k).length := List.countP_le_length
        rw [List.length_take] at h1
        omega
      obtain ⟨va, vc, rfl, _⟩ := (unhide hO).slice
      obtain ⟨P, hP⟩ : ∃ P, kidsP (ns.take k) p = P := ⟨_, rfl⟩
      rw [hP] at hO hln HT
      rw [hP]
      clear q hx hP
      go_wp2_with fail
      refine (unhide CS x.p _).mono ?_
      rintro e w2 ⟨rfl, hb2⟩
      have hB2 := hide (nnext (unhide hB) (nbox_then hb2))
      have hO2 := hide ((unhide hO).next (nbox_then hb2))
      clear hb2 d0 d1 d2 d3 d4 d5 d6 d7 d8
      by_cases hs : dirOf x.p = p
      · have HS := hide hs
        obtain ⟨D, hD⟩ : ∃ D, dirOf x.p = D := ⟨_, rfl⟩
        rw [hD] at HT HS hs
        rw [hD]
        subst hs
        clear hD HS
        go_wp2_with (at_builtin; refine wpList_append_own _ rfl _ _ 41 rfl w.heap.size 9 i0 _ 1 16 Tryz.underlying41 hi0 hz0 hz1 hz2 rfl (by decide) _ P.length (cellsL P) rfl (((unhide hO2).next (allocB _ _)).row) ⟨w2.heap.size, 0, none⟩ 1 1 [.string ⟨(stepOf x.p).toArray⟩] rfl (by rfl) ?qc2 (by intro u hu; simp at hu; subst hu; rfl) ?qc4 ?qc5 ?qc6 ?_)
        case qc2 =>
          intro j u hj
          exact one_news (one_newS w2 (stepOf x.p)) j u hj
        case qc4 => simp only [maxLen]; omega
        case qc5 => omega
        case qc6 => have := (unhide hB2).size; simp; omega
        intro v' w3 hown hgrow _
        have O1 : OwnS w3 w.heap.size v' (P ++ [stepOf x.p]) := OwnS.of_row (by rw [List.length_append, cellsL_snoc]; exact hown)
        have B1 : Below w.heap.size w w3 := (nnext (unhide hB2) (allocB _ _)).grown hgrow (nnext (unhide hB2) (allocB _ _)).size (fun j hj => by
          rcases unhide hO2 with ⟨e, _⟩ | ⟨q, c, e, hq, _⟩
          · rw [e] at hj; cases hj
          · rw [e] at hj; cases hj; exact hq)
        have HO1 := hide O1
        have HB1 := hide B1
        obtain ⟨wa, wc, rfl, _⟩ := O1.slice
        clear O1 B1 hown hgrow
        go_wp2_with fail
        go_roundg (ns.length - (k + 1))
        case measure => omega
        case rel => exact ⟨k + 1, rfl, by omega, Nat.le_refl _, (by rw [unhide HT, if_pos (by trivial)]; exact HO1), HB1⟩
      · have hsb : (dirOf x.p == p) = false := by simpa using hs
        have HS := hide hs
        clear hs
        go_wp2_with fail
        go_roundg (ns.length - (k + 1))
        case measure => omega
        case rel => exact ⟨k + 1, rfl, by omega, Nat.le_refl _, (by rw [unhide HT, if_neg (unhide HS), List.append_nil]; exact hO2), hB2⟩
    · obtain rfl : k = ns.length := by omega
      have O1 := unhide hO
      rw [List.take_length] at O1
      have HO1 := hide O1
      obtain ⟨wa, wc, rfl, _⟩ := O1.slice
      clear O1
      go_wp2_with fail
      go_ret2
      exact ⟨_, rfl, unhide HO1, unhide hB⟩

end Go.Proofs.YtcplpbelficbeaaGreatDoor
