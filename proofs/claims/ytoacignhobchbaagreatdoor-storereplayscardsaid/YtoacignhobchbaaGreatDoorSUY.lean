/-
  What growth's open, owned and close do: the walks.
  What growth's close does: the walk.
  What growth's close does: the walk.
  What comes of a good tree by Apply is a good one, of the transaction's number. No program is named here.
-/
import Derived.Test.YtoacignhobchbaaGreatDoorSUL
import Derived.Test.YtoacignhobchbaaGreatDoorSUJ
namespace Go.Proofs.YtoacignhobchbaaGreatDoor
open Go.RowKit

theorem one_newI (w : World) (x : Int) : OneR (w.alloc (.cells #[.int .i64 x] 3)) w.heap.size x := heap_alloc_new w _
theorem one_newS (w : World) (x : List UInt8) : OneR (w.alloc (.cells #[.string ⟨x.toArray⟩] 9)) w.heap.size x := heap_alloc_new w _

set_option maxRecDepth 20000 in
set_option maxHeartbeats 2000000 in
theorem gopen_ok (F : Nat → Prop) (b : Nat) (z : Int) (vn vs ve : Value) (ns : List Nd) (ss A B : List Int) (es : List Ev) (s : Int) (w : World)
    (h : Grow w F b z vn vs ve ns ss es) (hF : ∀ k, w.heap.size ≤ k → F k) (G : SGap ss A B s) (hl : ss.length ≤ 2147483646) :
    Calls Tryz.prog 48 #[.pointer (some ⟨b, 0, none⟩), .int .i64 s] w fun e w' => e = .returned (.tuple #[]) ∧ ∃ vs', Grow w' F b z vn vs' ve ns (A ++ s :: B) es ∧ Touch F w w' := by
  have CF := ibs_gap vs ss A B s w h.s.seq (by omega) G
  have h0 := (h.next (allocB w (.cells #[.int .i64 s] 3)))
  have CI := iinsert_any vs A B s w.heap.size _ (by rw [← G.eq]; exact h0.s) (by rw [← G.eq]; omega) (one_newI w s) (fun e => by have := h.s.low _ e; omega)
  have c2 := h.c2
  have HG0 := hide h0
  have HF := hide hF
  have hbl := h.lt
  obtain ⟨sa, sc, rfl, _⟩ := h.s.slice
  have HCI := hide CI
  clear h h0 hF G CI
  go_enter Tryz.func48, Tryz.ntmps48
  go_wp2_with fail
  refine CF.mono ?_
  rintro e w1 ⟨rfl, rfl⟩
  go_wp2_with fail
  refine (unhide HCI).mono ?_
  rintro e w2 ⟨v', rfl, ho, hg, hloc⟩
  have n2 : ¬ (Value.slice sa ss.length sc).ownBlock = some b := fun e => ((unhide HG0).fs b e).2 rfl
  have m2 : w2.cell? ⟨b, 2, none⟩ = some (.slice sa ss.length sc) := hg.cell (unhide HG0).c2 (fun e => n2 e.symm)
  have l2 : w2.frozen? ⟨b, 2, none⟩ = false := (World.frozen?_of_block (hg.block b (unhide HG0).lt (fun e => n2 e.symm))).trans ((unhide HG0).fz 2)
  have g2 := (unhide HG0).se (vs' := v') (ss' := A ++ s :: B) (fun k hk => unhide HF k (by simp at hk; omega)) hg ho hloc
  have t2 : Touch F w1 (w2.setCell ⟨b, 2, none⟩ v') := ((Touch.of_below (allocB w1 _)).trans (Touch.of_grown hg (fun k e => ((unhide HG0).fs k e).1))).trans (Touch.set (unhide HG0).fb _)
  obtain ⟨va, L, vc, rfl⟩ : ∃ va L vc, v' = .slice va L vc := by obtain ⟨va, vc, h, _⟩ := ho.slice; exact ⟨_, _, _, h⟩
  have HG2 := hide g2
  have HT2 := hide t2
  clear g2 t2 ho hg hloc n2
  go_wp2_with fail
  go_end0
  exact ⟨rfl, _, unhide HG2, unhide HT2⟩

/- owned -/
theorem sinfo0 : (Tryz.prog.info? 9).map (fun i => (i.zero, i.size, i.bytes)) = some (some (.string ⟨#[]⟩), 1, 16) := by kernel_rfl
theorem sinfo : ∃ i0, Tryz.prog.info? 9 = some i0 ∧ i0.zero = some (.string ⟨#[]⟩) ∧ i0.size = 1 ∧ i0.bytes = 16 := by
  obtain ⟨i0, h, e⟩ := Option.map_eq_some_iff.1 sinfo0
  simp only [Prod.mk.injEq] at e
  exact ⟨i0, h, e⟩
theorem owned_take {ns : List Nd} {k : Nat} {x : Nd} (hx : ns[k]? = some x) (s : Int) : ownedP (ns.take (k + 1)) s = ownedP (ns.take k) s ++ (if x.o = s then [x.p] else []) := by
  rw [List.take_add_one, hx]
  simp only [ownedP, Option.toList_some, List.filter_append, List.map_append, List.filter_cons, List.filter_nil, decide_eq_true_eq]
  split <;> simp
theorem owned_len (ns : List Nd) (s : Int) : (ownedP ns s).length ≤ ns.length := by
  rw [ownedP, List.length_map]
  exact List.length_filter_le _ _
set_option maxRecDepth 20000 in
set_option maxHeartbeats 4000000 in
theorem owned_any (F : Nat → Prop) (b : Nat) (z : Int) (vn vs ve : Value) (ns : List Nd) (ss : List Int) (es : List Ev) (s : Int) (w : World)
    (h : Grow w F b z vn vs ve ns ss es) (hl : ns.length ≤ 400) (h0 : ns ≠ []) :
    Calls Tryz.prog 80 #[.pointer (some ⟨b, 0, none⟩), .int .i64 s] w fun e w' => ∃ v', e = .returned v' ∧ OwnS w' w.heap.size v' (ownedP ns s) ∧ Below w.heap.size w w' := by
  obtain ⟨i0, hi0, hz0, hz1, hz2⟩ := sinfo
  obtain ⟨g, cap, rfl, hr, hgb, hFg⟩ := h.nrow h0
  have hgl := hr.lt
  have c1 := h.c1
  have H := hide hr.row
  clear h hr
  go_enter Tryz.func80, Tryz.ntmps80
  go_wp2_with fail
  go_loopg [5, 14] ns.length (fun kx s5 s14 wr => ∃ k : Nat, s14 = .int .i64 k ∧ k ≤ ns.length ∧ ns.length - k ≤ kx ∧ Hid (OwnS wr w.heap.size s5 (ownedP (ns.take k) s)) ∧ Hid (Below w.heap.size w wr))
  case atStart => exact ⟨0, rfl, Nat.zero_le _, Nat.le_refl _, hide (.inl ⟨rfl, rfl⟩), hide (Below.refl _ _)⟩
  case round =>
    obtain ⟨k, rfl, hk, hg, hO, hB⟩ := hrel
    by_cases hlt : k < ns.length
    · obtain ⟨x, hx⟩ : ∃ x, ns[k]? = some x := ⟨_, List.getElem?_eq_getElem hlt⟩
      have q := (unhide H).kept (unhide hB) hgl
      have d0 := q.n0 hx
      have d1 := q.n1 hx
      have d2 := q.n2 hx
      have d3 := q.n3 hx
      have d4 := q.n4 hx
      have d5 := q.n5 hx
      have d6 := q.n6 hx
      have d7 := q.n7 hx
      have d8 := q.n8 hx
      rw [Nat.zero_add] at d0 d1 d2 d3 d4 d5 d6 d7 d8
      have hbw : g < wr.heap.size := Nat.lt_of_lt_of_le hgl (unhide hB).size
      have HT := hide (owned_take hx s)
      have hln := owned_len (ns.take k) s
      simp only [List.length_take] at hln
      clear q hx
      obtain ⟨va, vc, rfl, _⟩ := (unhide hO).slice
      have hrow := (unhide hO).row
      by_cases hs : x.o = s
      · have hsb : (x.o == s) = true := by simpa using hs
        have HS := hide hs
        clear hs
        obtain ⟨P, hP⟩ : ∃ P, ownedP (ns.take k) s = P := ⟨_, rfl⟩
        rw [hP] at hO hln HT hrow
        rw [hP]
        clear hP
        have HRW := hide hrow
        clear hrow
        go_wp2_with (at_builtin; refine wpList_append_own _ rfl _ _ 138 rfl w.heap.size 9 i0 _ 1 16 Tryz.underlying138 hi0 hz0 hz1 hz2 rfl (by decide) _ P.length (cellsL P) rfl ((((unhide hO).next (allocB wr (.cells #[.string ⟨x.p.toArray⟩, .string ⟨x.d.toArray⟩, .int .i64 x.c, .int .i64 x.m, .int .i64 x.q, .int .i64 x.v, .int .i64 x.k, .int .i64 x.o, .int .i64 x.n] 70))).next (allocB _ _)).row) ⟨wr.heap.size + 1, 0, none⟩ 1 1 [.string ⟨x.p.toArray⟩] rfl (by rfl) ?qc2 (by intro u hu; simp at hu; subst hu; rfl) ?qc4 ?qc5 ?qc6 ?_)
        case qc2 =>
          intro j u hj
          have := one_news (one_newS (wr.alloc (.cells #[.string ⟨x.p.toArray⟩, .string ⟨x.d.toArray⟩, .int .i64 x.c, .int .i64 x.m, .int .i64 x.q, .int .i64 x.v, .int .i64 x.k, .int .i64 x.o, .int .i64 x.n] 70)) x.p) j u hj
          simpa using this
        case qc4 => simp only [maxLen]; omega
        case qc5 => omega
        case qc6 => have := (unhide hB).size; simp; omega
        intro v' w1 hown hgrow _
        have O1 : OwnS w1 w.heap.size v' (P ++ [x.p]) := OwnS.of_row (by rw [List.length_append, cellsL_snoc]; exact hown)
        have hB0 : Below w.heap.size w ((wr.alloc (.cells #[.string ⟨x.p.toArray⟩, .string ⟨x.d.toArray⟩, .int .i64 x.c, .int .i64 x.m, .int .i64 x.q, .int .i64 x.v, .int .i64 x.k, .int .i64 x.o, .int .i64 x.n] 70)).alloc (.cells #[.string ⟨x.p.toArray⟩] 9)) := nnext (unhide hB) (nnext (allocB _ _) (allocB _ _))
        have B1 : Below w.heap.size w w1 := hB0.grown hgrow hB0.size (fun j hj => by
          rcases unhide hO with ⟨e, _⟩ | ⟨q, c, e, hq, _⟩
          · rw [e] at hj; cases hj
          · rw [e] at hj; cases hj; exact hq)
        have HO1 := hide O1
        have HB1 := hide B1
        obtain ⟨wa, wc, rfl, _⟩ := O1.slice
        clear O1 B1 hB0 hown hgrow
        go_wp2_with fail
        go_roundg (ns.length - (k + 1))
        case measure => omega
        case rel => exact ⟨k + 1, rfl, by omega, Nat.le_refl _, (by rw [unhide HT, if_pos (unhide HS)]; exact HO1), HB1⟩
      · have hsb : (x.o == s) = false := by simpa using hs
        have HS := hide hs
        have HO1 := hide ((unhide hO).next (allocB wr (.cells #[.string ⟨x.p.toArray⟩, .string ⟨x.d.toArray⟩, .int .i64 x.c, .int .i64 x.m, .int .i64 x.q, .int .i64 x.v, .int .i64 x.k, .int .i64 x.o, .int .i64 x.n] 70)))
        clear hs hrow
        go_wp2_with fail
        go_roundg (ns.length - (k + 1))
        case measure => omega
        case rel => exact ⟨k + 1, rfl, by omega, Nat.le_refl _, (by rw [unhide HT, if_neg (unhide HS), List.append_nil]; exact HO1), hide (nnext (unhide hB) (allocB _ _))⟩
    · obtain rfl : k = ns.length := by omega
      have O1 := unhide hO
      rw [List.take_length] at O1
      have HO1 := hide O1
      obtain ⟨wa, wc, rfl, _⟩ := O1.slice
      clear O1
      go_wp2_with fail
      go_ret
      exact ⟨_, rfl, unhide HO1, unhide hB⟩

end Go.Proofs.YtoacignhobchbaaGreatDoor

namespace Go.Proofs.YtoacignhobchbaaGreatDoor
open Go.RowKit

theorem OwnS.touched {α : Type} [Lay α] {W V : World} {B : Nat} {v : Value} {xs : List α} {F : Nat → Prop} (h : OwnS W B v xs) (ht : Touch F W V) (hf : ∀ k, v.ownBlock = some k → ¬ F k) : OwnS V B v xs := by
  rcases h with h | ⟨g, cap, rfl, hB, h⟩
  · exact .inl h
  · obtain ⟨rest, h1, h2⟩ := h
    have hlt := (Array.getElem?_eq_some_iff.1 h1).1
    exact .inr ⟨g, cap, rfl, hB, rest, (ht.block g hlt (hf g rfl)).trans h1, h2⟩
def Closed (F : Nat → Prop) (b : Nat) (z : Int) (ns : List Nd) (ss' : List Int) (ps : List (List UInt8)) (w : World) (e : Ending) (w' : World) : Prop :=
  (fullN (rmAll z ns ps) = true ∧ e = .returned (.int .i64 6) ∧ Touch F w w') ∨
  (fullN (rmAll z ns ps) = false ∧ e = .returned (.int .i64 0) ∧ ∃ vn' vs' ve', Grow w' F b z vn' vs' ve' (rmAll z ns ps) ss' (rmEv ps) ∧ Touch F w w')
structure Clo (z s : Int) (ss0 : List Int) (cur : List Nd) (ps : List (List UInt8)) : Prop where
  g : GoodN z cur ss0
  r : Rest s cur ps
  c : ∀ n ∈ cur, n.k ≤ 2147483647
/-- one removal: what it comes to -/
theorem clo_step (F : Nat → Prop) (b : Nat) (z s : Int) (vn vs ve : Value) (cur : List Nd) (ss ss0 : List Int) (es : List Ev) (p : List UInt8) (ps : List (List UInt8)) (w : World)
    (h : Grow w F b z vn vs ve cur ss es) (hF : ∀ k, w.heap.size ≤ k → F k) (hes : es.length ≤ 99998) (C : Clo z s ss0 cur (p :: ps)) :
    (fullN (rmAll z cur (p :: ps)) = true ∧ Calls Tryz.prog 51 #[.pointer (some ⟨b, 0, none⟩), .string ⟨p.toArray⟩] w fun e w' => e = .returned (.int .i64 6) ∧ Touch F w w') ∨
    (Clo z s ss0 (rmN z cur p) ps ∧ Calls Tryz.prog 51 #[.pointer (some ⟨b, 0, none⟩), .string ⟨p.toArray⟩] w fun e w' => e = .returned (.int .i64 0) ∧ ∃ vn' ve', Grow w' F b z vn' vs ve' (rmN z cur p) ss (es ++ [⟨2, p⟩, ⟨4, dirOf p⟩]) ∧ Touch F w w') := by
  obtain ⟨A, n, B, u, T, ho, hk, hr, hgd, hu1, hu2, hu3, hu4, hu5, hu6, g', R'⟩ := rest_step C.g C.r
  obtain ⟨A', B', T'⟩ := there_drop C.g.asc T hu2 hu3 hu4
  have hp := goodB_le hgd
  have hd := dirOf_len p
  have hkk := C.c u hu2
  have h0 := (C.g.ok u hu2).k0
  have hn := (C.g.ok u hu2).kids
  have hn2 : kidsN cur u.p ≤ cur.length := List.countP_le_length
  have hl := C.g.few
  by_cases hf : u.k = 2147483647
  · refine .inl ⟨rm_full hu2 hu3 hu4 hf ps hu6, ?_⟩
    exact remove_full F b z vn vs ve cur A B A' B' n u ss es p w h hF T T' hl hk hf (by omega) (by omega)
  · refine .inr ⟨⟨g', R', rm_cap C.g.asc hu2 hu3 (by omega) C.c⟩, ?_⟩
    exact remove_ok F b z vn vs ve cur A B A' B' n u ss es p w h hF T T' hl hk ⟨h0, by omega⟩ (by omega) (by omega) (by omega) (by omega)

end Go.Proofs.YtoacignhobchbaaGreatDoor

namespace Go.Proofs.YtoacignhobchbaaGreatDoor
open Go.RowKit

set_option maxRecDepth 20000 in
set_option maxHeartbeats 4000000 in
theorem close_any (F : Nat → Prop) (b : Nat) (z : Int) (vn vs ve : Value) (ns : List Nd) (ss A B ss0 : List Int) (s : Int) (w : World)
    (h : Grow w F b z vn vs ve ns ss []) (hF : ∀ k, w.heap.size ≤ k → F k) (T : SThere ss A B s) (hl : ss.length ≤ 2147483647) (C : Clo z s ss0 ns (ownedP ns s)) :
    Calls Tryz.prog 49 #[.pointer (some ⟨b, 0, none⟩), .int .i64 s] w fun e w' => Closed F b z ns (A ++ B) (ownedP ns s) w e w' := by
  have CF := ibs_there vs ss A B s w h.s.seq hl T
  have hne : ns ≠ [] := by obtain ⟨r, rest, e, _⟩ := C.g.root; rw [e]; simp
  have hfew := C.g.few
  obtain ⟨g, cap, hsv, hr⟩ : ∃ g cap, vs = .slice (some ⟨g, 0, none⟩) ss.length cap ∧ OwnR w g cap (A ++ s :: B) := by
    rcases h.s with ⟨_, e⟩ | ⟨g, cap, e, _, h3⟩
    · have := T.eq; rw [e] at this; simp at this
    · exact ⟨g, cap, e, by rw [← T.eq]; exact h3⟩
  subst hsv
  have hlen : ss.length = A.length + B.length + 1 := by rw [T.eq]; simp; omega
  have CD := idelete_any g cap A B s ss.length w hr hlen hl
  have c2 := h.c2
  have hgb := (h.fs g rfl).2
  have hFg := (h.fs g rfl).1
  have HG := hide h
  have HF := hide hF
  have HC := hide C
  have HCD := hide CD
  obtain ⟨ps, hps⟩ : ∃ ps, ownedP ns s = ps := ⟨_, rfl⟩
  have HPS := hide hps
  have hpl : ps.length ≤ 400 := by rw [← hps]; exact Nat.le_trans (owned_len ns s) hfew
  rw [hps]
  have hAl : A.length < ss.length := by omega
  clear h hF T hr CD C hps hlen
  go_enter Tryz.func49, Tryz.ntmps49
  go_wp2_with fail
  refine CF.mono ?_
  rintro e w1 ⟨rfl, rfl⟩
  clear CF
  go_wp2_with fail
  rw [show ((A.length : Int) + 1) = ((A.length + 1 : Nat) : Int) from by omega]
  refine (unhide HCD).mono ?_
  rintro e w2 ⟨rfl, ho2, hg2⟩
  have m2 : w2.cell? ⟨b, 2, none⟩ = some (.slice (some ⟨g, 0, none⟩) ss.length cap) := hg2.cell c2 (fun e => hgb (Option.some.inj e).symm)
  have l2 : w2.frozen? ⟨b, 2, none⟩ = false := (World.frozen?_of_block (hg2.block b (unhide HG).lt (fun e => hgb (Option.some.inj e).symm))).trans ((unhide HG).fz 2)
  have g2 := (unhide HG).se (vs' := .slice (some ⟨g, 0, none⟩) (A.length + B.length) cap) (ss' := A ++ B) (unhide HF) hg2 (.inr ⟨g, cap, by rw [List.length_append], Nat.zero_le _, ho2⟩) (.inl rfl)
  have t2 : Touch F w1 (w2.setCell ⟨b, 2, none⟩ (.slice (some ⟨g, 0, none⟩) (A.length + B.length) cap)) := (Touch.of_grown hg2 (fun k e => by cases e; exact hFg)).trans (Touch.set g2.fb _)
  have HG2 := hide g2
  have HT2 := hide t2
  clear g2 t2 ho2 hg2 HCD c2
  go_wp2_with fail
  refine (owned_any F b z _ _ _ _ _ _ s _ (unhide HG2) hfew hne).mono ?_
  rintro e w3 ⟨v3, rfl, ho3, hb3⟩
  rw [unhide HPS] at ho3
  have g3 := (unhide HG2).next hb3
  have HG3 := hide g3
  have HO3 := hide ho3
  obtain ⟨pa, pc, rfl, _⟩ := ho3.slice
  have hlow : ∀ k, (Value.slice pa ps.length pc).ownBlock = some k → (w2.setCell ⟨b, 2, none⟩ (.slice (some ⟨g, 0, none⟩) (A.length + B.length) cap)).heap.size ≤ k := by
    intro k e
    rcases unhide HO3 with ⟨h1, _⟩ | ⟨q, c, h1, hq, _⟩
    · rw [h1] at e; cases e
    · rw [h1] at e; cases e; exact hq
  have F3 : Hid (Grow w3 (fun k => F k ∧ (Value.slice pa ps.length pc).ownBlock ≠ some k) b z vn (.slice (some ⟨g, 0, none⟩) (A.length + B.length) cap) ve ns (A ++ B) []) := by
    have q := unhide HG2
    exact ⟨g3.blk, ⟨g3.fb, fun e => by have := hlow _ e; have := q.lt; omega⟩, g3.n, g3.s, g3.e, fun k hk => ⟨⟨(g3.fn k hk).1, fun e => by have := hlow _ e; have := q.n.low k hk; omega⟩, (g3.fn k hk).2⟩, fun k hk => ⟨⟨(g3.fs k hk).1, fun e => by have := hlow _ e; have := q.s.low k hk; omega⟩, (g3.fs k hk).2⟩, fun k hk => ⟨⟨(g3.fe k hk).1, fun e => by have := hlow _ e; have := q.e.low k hk; omega⟩, (g3.fe k hk).2⟩, g3.an, g3.asn⟩
  have T3 := hide ((unhide HT2).trans (Touch.of_below hb3))
  have hpb : ∀ k, (Value.slice pa ps.length pc).ownBlock = some k → k < w3.heap.size := fun k e => (unhide HO3).low k e
  have HPB := hide hpb
  have HF3 : Hid (∀ W : World, w3.heap.size ≤ W.heap.size → ∀ k, W.heap.size ≤ k → F k ∧ (Value.slice pa ps.length pc).ownBlock ≠ some k) := fun W hW k hk => ⟨unhide HF k (by have := (unhide T3).size; omega), fun e => by have := unhide HPB k e; omega⟩
  clear g3 ho3 hlow hpb hb3 m2 l2
  go_wp2_with fail
  go_loopg [37] ps.length (fun kx s37 wr => ∃ (k : Nat) (vn' ve' : Value), s37 = .int .i64 k ∧ k ≤ ps.length ∧ ps.length - k ≤ kx ∧ Hid (Grow wr (fun k => F k ∧ (Value.slice pa ps.length pc).ownBlock ≠ some k) b z vn' (.slice (some ⟨g, 0, none⟩) (A.length + B.length) cap) ve' (rmAll z ns (ps.take k)) (A ++ B) (rmEv (ps.take k))) ∧ Hid (Clo z s ss0 (rmAll z ns (ps.take k)) (ps.drop k)) ∧ Hid (Touch (fun k => F k ∧ (Value.slice pa ps.length pc).ownBlock ≠ some k) w3 wr))
  case atStart => exact ⟨0, vn, ve, rfl, Nat.zero_le _, Nat.le_refl _, F3, (by rw [List.drop_zero]; have := unhide HC; rw [unhide HPS] at this; exact hide this), hide (Touch.refl _ _)⟩
  case round =>
    obtain ⟨k, vn', ve', rfl, hk, hg, hG, hCl, hT⟩ := hrel
    have tF : Hid (Touch F w1 wr) := hide ((unhide T3).trans ((unhide hT).mono (fun k _ hk => hk.1)))
    by_cases hlt : k < ps.length
    · obtain ⟨p, hp⟩ : ∃ p, ps[k]? = some p := ⟨_, List.getElem?_eq_getElem hlt⟩
      have hor := (unhide HO3).touched (unhide hT) (fun q e h => h.2 e)
      obtain ⟨q, off, cq, he, _, hrow, _, _⟩ := seq_row hor.seq (by intro e; rw [e] at hlt; simp at hlt)
      simp only [Value.slice.injEq] at he
      obtain ⟨rfl, _, rfl⟩ := he
      have r0 := hrow.s0 hp
      have hdr : ps.drop k = p :: ps.drop (k + 1) := by rw [List.drop_eq_getElem_cons hlt]; congr 1; rw [List.getElem?_eq_getElem hlt] at hp; exact Option.some.inj hp
      have hev : (rmEv (ps.take k)).length ≤ 99998 := by rw [rmEv_len, List.length_take]; omega
      have CL := unhide hCl
      rw [hdr] at CL
      have ST := clo_step _ b z s vn' _ ve' _ (A ++ B) ss0 _ p (ps.drop (k + 1)) wr (unhide hG) (unhide HF3 wr (unhide hT).size) hev CL
      have HN := hide (rmAll_next z ns hp)
      have HV := hide (rmEv_next hp)
      have HSP := hide (show rmAll z ns ps = rmAll z (rmAll z ns (ps.take k)) (p :: ps.drop (k + 1)) by rw [← hdr]; exact rmAll_split z ns ps k)
      clear CL hdr hp hor hrow
      rcases ST with ⟨hfull, C6⟩ | ⟨C0, C00⟩
      · have HFU := hide hfull
        clear hfull
        go_wp2_with fail
        refine C6.mono ?_
        rintro e w4 ⟨rfl, t4⟩
        have HT4 := hide ((unhide tF).trans (t4.mono (fun k _ hk => hk.1)))
        clear C6 t4
        go_wp2_with fail
        go_ret
        exact .inl ⟨by rw [unhide HSP]; exact unhide HFU, rfl, unhide HT4⟩
      · have HC0 := hide C0
        clear C0
        go_wp2_with fail
        refine C00.mono ?_
        rintro e w4 ⟨rfl, vn2, ve2, g4, t4⟩
        have HG4 := hide g4
        have HT4 := hide ((unhide hT).trans t4)
        clear C00 t4 g4
        go_wp2_with fail
        go_roundg (ps.length - (k + 1))
        case measure => omega
        case rel => exact ⟨k + 1, vn2, ve2, rfl, by omega, Nat.le_refl _, (by rw [unhide HN, unhide HV]; exact HG4), (by rw [unhide HN]; exact HC0), HT4⟩
    · obtain rfl : k = ps.length := by omega
      have hGf := (unhide hG).cut (G := F) (fun k _ hk => hk.1)
      have hcap := (unhide hCl).c
      rw [List.take_length] at hGf hcap
      have HGf := hide hGf
      have HCp := hide (fullN_false.2 hcap)
      clear hGf hcap
      go_wp2_with fail
      go_ret
      exact .inr ⟨unhide HCp, rfl, vn', _, ve', unhide HGf, unhide tF⟩

end Go.Proofs.YtoacignhobchbaaGreatDoor

namespace Go.Proofs.YtoacignhobchbaaGreatDoor
open Go.RowKit

theorem fine_of {x : WTxn} (h : gdE x = 0) : Fine x := by
  obtain ⟨h1, h2, h3, h4⟩ := gdE_zero h
  obtain ⟨n1, n2, n3, n4⟩ := numB_iff.1 h2
  have o := opB_iff.1 h1
  have z := n1
  simp only [zGood, Bool.and_eq_true, decide_eq_true_eq] at z
  refine ⟨o, ⟨z.1, n1⟩, cntB_iff.1 n2, cntB_iff.1 n3, cntB_iff.1 n4, h3, ?_, ?_, ?_⟩
  · rintro (e | e)
    · simp [fmB, e] at h4
      exact ⟨h4.1.1, h4.1.2⟩
    · simp [fmB, e] at h4
      exact ⟨h4.1.1.1.1, h4.1.1.1.2⟩
  · intro e
    simp [fmB, e] at h4
    exact h4.1
  · intro e3 e5
    by_cases e4 : x.o = 4
    · simp [fmB, e4] at h4
      exact h4.1.1.2
    · simp [fmB, e3, e4, e5] at h4
      exact h4.1.1.2
theorem app_good {t : Tr} {x : WTxn} (h : appE t x = 0) : GoodT (appT t x) ∧ (appT t x).z = x.z ∧ t.z < x.z := by
  obtain ⟨ha, hc, hf⟩ := app_zero h
  obtain ⟨g, hg, hz, h1, h2⟩ := adm_zero ha
  have f := fine_of hg
  have hs := g.ses
  have gn : GoodN x.z t.ns t.ss := g.nod.mono (by omega)
  rw [appT, if_pos h]
  refine ⟨⟨f.z.2, ?_, ?_, fullN_false.1 hf⟩, rfl, hz⟩
  · show SAsc (chgS t x)
    rw [chgS]
    split
    · rename_i e; exact sasc_ins hs f.s (h1 e)
    · split
      · exact sasc_drop _ hs
      · exact hs
  · show GoodN x.z (chgN t x) (chgS t x)
    rw [chgN, chgS]
    by_cases e1 : x.o = 1
    · rw [if_neg (by omega), if_neg (by omega), if_neg (by omega), if_neg (by omega), if_pos e1]
      exact gn.more (fun n _ _ h => mem_insS h)
    · rw [if_neg e1]
      have hm := h2 e1
      by_cases e2 : x.o = 2
      · rw [if_pos e2, if_pos e2]
        have R := rest_owned gn (s := x.s) (by have := f.s; omega)
        refine (rmAll_good _ _ gn R).more (fun n hn h0 hi => ?_)
        rw [dropS]
        refine List.mem_filter.2 ⟨hi, ?_⟩
        simp only [decide_eq_true_eq]
        intro e
        obtain ⟨m, hm1, hm2, hm3, _, _, hm4⟩ := mem_rmAll _ _ n hn
        apply hm4
        rw [ownedP]
        exact List.mem_map.2 ⟨m, List.mem_filter.2 ⟨hm1, by simp only [decide_eq_true_eq]; rw [hm3, e]⟩, rfl⟩
      · rw [if_neg e2, if_neg e2]
        by_cases e3 : x.o = 3
        · rw [if_pos e3]
          rw [chgE, if_pos e3] at hc
          obtain ⟨c1, ⟨u, c2, c3⟩, c4, c5⟩ := cre_zero hc
          obtain ⟨A, B, G⟩ := gap_of_look g.nod.asc c1
          obtain ⟨p1, p2⟩ := f.path (.inl e3)
          have hu := lookN_some c2
          refine add_good (x := newN x) gn G (by have := g.nod.few; omega) p1 p2 ⟨u, hu.1, hu.2, c3⟩ f.d f.z.1 rfl rfl rfl rfl rfl rfl ?_
          rcases c4 with c | c
          · exact .inl c
          · exact .inr (by show x.w ∈ t.ss; rw [c]; exact hm)
        · rw [if_neg e3]
          by_cases e4 : x.o = 4
          · rw [if_pos e4]
            rw [chgE, if_neg e3, if_pos e4] at hc
            obtain ⟨n, c1, c2⟩ := del_zero hc
            obtain ⟨A, B, T⟩ := there_of_look g.nod.asc c1
            exact rm_good gn T c2 (f.path (.inr e4)).2
          · rw [if_neg e4]
            by_cases e5 : x.o = 5
            · rw [if_pos e5]
              exact set_good gn x.p x.d x.v f.d f.v (fun n hn => by have k := g.nod.ok n hn; have := k.cm; have := k.mz; omega)
            · have := f.op; omega

end Go.Proofs.YtoacignhobchbaaGreatDoor
