/-
  What growth's parentChanges does: the walks.
  What growth's remove does: the walks.
  What slices.Clone of numbers and tree.begun do: the walks.
-/
import Derived.Test.YtcplpbelficbeaaGreatDoorRQI
namespace Go.Proofs.YtcplpbelficbeaaGreatDoor
open Go.RowKit

theorem nat_at (A : List Nd) (x : Nd) (B : List Nd) : (A ++ x :: B)[A.length]? = some x := by simp

set_option maxRecDepth 20000 in
set_option maxHeartbeats 2000000 in
theorem parent_full (F : Nat → Prop) (b : Nat) (z : Int) (vn vs ve : Value) (ns A B : List Nd) (u : Nd) (ss : List Int) (es : List Ev) (p : List UInt8) (more : Int) (w : World)
    (h : Grow w F b z vn vs ve ns ss es) (T : NThere ns A u B p) (hl : ns.length ≤ 400) (hk : u.k = 2147483647) :
    Calls Tryz.prog 61 #[.pointer (some ⟨b, 0, none⟩), .string ⟨p.toArray⟩, .int .i64 more] w fun e w' => e = .returned (.int .i64 6) ∧ Touch F w w' := by
  have CF := fun W (hW : Below w.heap.size w W) => nfind_there vn ns A B u p W (h.n.next hW).seq (by omega) T
  obtain ⟨g, cap, rfl, hr, hgb, hFg⟩ := h.nrow (by rw [T.eq]; simp)
  have c1 := h.c1
  have HG := hide h
  have HE := hide T.eq
  have hlt : A.length < ns.length := by rw [T.eq]; simp
  clear h hr T
  go_enter Tryz.func61, Tryz.ntmps61
  go_wp2_with fail
  refine (CF _ (Below.refl _ _)).mono ?_
  rintro e w1 ⟨rfl, hb1⟩
  have g1 := (unhide HG).next hb1
  have d1 := g1.c1
  obtain ⟨g', cap', he, hr, _, _⟩ := g1.nrow (by rw [unhide HE]; simp)
  simp only [Value.slice.injEq, Option.some.injEq, Addr.mk.injEq, and_true] at he
  obtain ⟨rfl, _, rfl⟩ := he
  have r6 := hr.row.n6 (i := A.length) (x := u) (by rw [unhide HE]; exact nat_at A u B)
  rw [hk, Nat.zero_add] at r6
  have HB := hide hb1
  clear CF c1 g1 hr hb1
  go_wp2_with fail
  go_ret
  exact ⟨rfl, Touch.of_below (unhide HB)⟩

set_option maxRecDepth 20000 in
set_option maxHeartbeats 4000000 in
theorem parent_ok (F : Nat → Prop) (b : Nat) (z : Int) (vn vs ve : Value) (ns A B : List Nd) (u : Nd) (ss : List Int) (es : List Ev) (p : List UInt8) (more : Int) (w : World)
    (h : Grow w F b z vn vs ve ns ss es) (hF : ∀ k, w.heap.size ≤ k → F k) (T : NThere ns A u B p) (hl : ns.length ≤ 400) (hk : 0 ≤ u.k ∧ u.k < 2147483647) (hn : 0 ≤ u.n ∧ u.n ≤ 1000) (hm : -1 ≤ more ∧ more ≤ 1) (hp : p.length ≤ 140737488355328) (hes : es.length ≤ 99999) :
    Calls Tryz.prog 61 #[.pointer (some ⟨b, 0, none⟩), .string ⟨p.toArray⟩, .int .i64 more] w fun e w' => e = .returned (.int .i64 0) ∧ ∃ ve', Grow w' F b z vn vs ve' (A ++ bump z more u :: B) ss (es ++ [⟨4, p⟩]) ∧ Touch F w w' := by
  have CF := fun W (hW : Below w.heap.size w W) => nfind_there vn ns A B u p W (h.n.next hW).seq (by omega) T
  obtain ⟨g, cap, rfl, hr, hgb, hFg⟩ := h.nrow (by rw [T.eq]; simp)
  have c1 := h.c1
  have HG := hide h
  have HE := hide T.eq
  have HF := hide hF
  have hlt : A.length < ns.length := by rw [T.eq]; simp
  clear h hr T hF
  go_enter Tryz.func61, Tryz.ntmps61
  go_wp2_with fail
  refine (CF _ (Below.refl _ _)).mono ?_
  rintro e w1 ⟨rfl, hb1⟩
  have g1 := (unhide HG).next hb1
  have d1 := g1.c1
  have d0 := g1.c0
  obtain ⟨g', cap', he, hr, _, _⟩ := g1.nrow (by rw [unhide HE]; simp)
  simp only [Value.slice.injEq, Option.some.injEq, Addr.mk.injEq, and_true] at he
  obtain ⟨rfl, _, rfl⟩ := he
  have at' : ns[A.length]? = some u := by rw [unhide HE]; exact nat_at A u B
  have r4 := hr.row.n4 at'
  have r6 := hr.row.n6 at'
  have r8 := hr.row.n8 at'
  have z4 := hr.frozen (A.length * 9 + 4)
  have z6 := hr.frozen (A.length * 9 + 6)
  have z8 := hr.frozen (A.length * 9 + 8)
  rw [Nat.zero_add] at r4 r6 r8
  have hne : g ≠ b := hgb
  have hne' : b ≠ g := Ne.symm hgb
  have hk1 := hk.1
  have hk2 := hk.2
  have hkn : ¬ u.k = 2147483647 := by omega
  have g4 : Grow (((w1.setCell ⟨g, A.length * 9 + 8, none⟩ (.int .i64 (u.n + more))).setCell ⟨g, A.length * 9 + 6, none⟩ (.int .i64 (u.k + 1))).setCell ⟨g, A.length * 9 + 4, none⟩ (.int .i64 z)) F b z (.slice (some ⟨g, 0, none⟩) ns.length cap) vs ve (A ++ bump z more u :: B) ss es := by
    have e0 := g1
    rw [unhide HE] at e0
    have e1 := e0.put (m := ⟨u.p, u.d, u.c, u.m, u.q, u.v, u.k, u.o, u.n + more⟩) (c := 8) (by omega) (v := .int .i64 (u.n + more)) rfl
    have e2 := e1.put (m := ⟨u.p, u.d, u.c, u.m, u.q, u.v, u.k + 1, u.o, u.n + more⟩) (c := 6) (by omega) (v := .int .i64 (u.k + 1)) rfl
    have e3 := e2.put (m := bump z more u) (c := 4) (by omega) (v := .int .i64 z) rfl
    rw [unhide HE]
    exact e3
  have T4 : Touch F w (((w1.setCell ⟨g, A.length * 9 + 8, none⟩ (.int .i64 (u.n + more))).setCell ⟨g, A.length * 9 + 6, none⟩ (.int .i64 (u.k + 1))).setCell ⟨g, A.length * 9 + 4, none⟩ (.int .i64 z)) :=
    (((Touch.of_below hb1).trans (Touch.set hFg _)).trans (Touch.set hFg _)).trans (Touch.set hFg _)
  have CT := fun W (hW : Grow W F b z (.slice (some ⟨g, 0, none⟩) ns.length cap) vs ve (A ++ bump z more u :: B) ss es) (hs : w.heap.size ≤ W.heap.size) => tell_any F b z _ vs ve _ ss es 4 p W hW (fun k hk => unhide HF k (by omega)) hp (by omega)
  have HG4 := hide g4
  have HT4 := hide T4
  have HCT := hide CT
  clear CF c1 g1 hr hb1 at' g4 T4 CT
  go_wp2_with fail
  refine (unhide HCT _ (unhide HG4) (unhide HT4).size).mono ?_
  rintro e w5 ⟨rfl, ve', g5, t5⟩
  have HG5 := hide g5
  have HT5 := hide ((unhide HT4).trans t5)
  clear g5 t5
  go_wp2_with fail
  go_ret
  exact ⟨rfl, ve', unhide HG5, unhide HT5⟩

end Go.Proofs.YtcplpbelficbeaaGreatDoor

namespace Go.Proofs.YtcplpbelficbeaaGreatDoor
open Go.RowKit

/- remove -/
set_option maxRecDepth 20000 in
set_option maxHeartbeats 2000000 in
theorem remove_gap (F : Nat → Prop) (b : Nat) (z : Int) (vn vs ve : Value) (ns A B : List Nd) (ss : List Int) (es : List Ev) (p : List UInt8) (w : World)
    (h : Grow w F b z vn vs ve ns ss es) (G : NGap ns A B p) (hl : ns.length ≤ 400) :
    Calls Tryz.prog 41 #[.pointer (some ⟨b, 0, none⟩), .string ⟨p.toArray⟩] w fun e w' => e = .returned (.int .i64 7) ∧ Touch F w w' := by
  have CF := fun W (hW : Below w.heap.size w W) => nfind_gap vn ns A B p W (h.n.next hW).seq (by omega) G
  have c1 := h.c1
  obtain ⟨na, nc, rfl, _⟩ := h.n.slice
  clear h G
  go_enter Tryz.func41, Tryz.ntmps41
  go_wp2_with fail
  refine (CF _ (Below.refl _ _)).mono ?_
  rintro e w1 ⟨rfl, hb1⟩
  clear CF
  go_wp2_with fail
  go_ret
  exact ⟨rfl, Touch.of_below hb1⟩

set_option maxRecDepth 20000 in
set_option maxHeartbeats 2000000 in
theorem remove_kids (F : Nat → Prop) (b : Nat) (z : Int) (vn vs ve : Value) (ns A B : List Nd) (u : Nd) (ss : List Int) (es : List Ev) (p : List UInt8) (w : World)
    (h : Grow w F b z vn vs ve ns ss es) (T : NThere ns A u B p) (hl : ns.length ≤ 400) (hk : u.n ≠ 0) :
    Calls Tryz.prog 41 #[.pointer (some ⟨b, 0, none⟩), .string ⟨p.toArray⟩] w fun e w' => e = .returned (.int .i64 10) ∧ Touch F w w' := by
  have CF := fun W (hW : Below w.heap.size w W) => nfind_there vn ns A B u p W (h.n.next hW).seq (by omega) T
  obtain ⟨g, cap, rfl, hr, hgb, hFg⟩ := h.nrow (by rw [T.eq]; simp)
  have c1 := h.c1
  have HG := hide h
  have HE := hide T.eq
  have hlt : A.length < ns.length := by rw [T.eq]; simp
  clear h hr T
  go_enter Tryz.func41, Tryz.ntmps41
  go_wp2_with fail
  refine (CF _ (Below.refl _ _)).mono ?_
  rintro e w1 ⟨rfl, hb1⟩
  have g1 := (unhide HG).next hb1
  have d1 := g1.c1
  obtain ⟨g', cap', he, hr, _, _⟩ := g1.nrow (by rw [unhide HE]; simp)
  simp only [Value.slice.injEq, Option.some.injEq, Addr.mk.injEq, and_true] at he
  obtain ⟨rfl, _, rfl⟩ := he
  have r8 := hr.row.n8 (i := A.length) (x := u) (by rw [unhide HE]; exact nat_at A u B)
  rw [Nat.zero_add] at r8
  have hk' : (u.n != 0) = true := by simpa using hk
  have HB := hide hb1
  clear CF c1 g1 hr hb1 hk
  go_wp2_with fail
  go_ret
  exact ⟨rfl, Touch.of_below (unhide HB)⟩

set_option maxRecDepth 20000 in
set_option maxHeartbeats 4000000 in
theorem remove_main (F : Nat → Prop) (b : Nat) (z : Int) (vn vs ve : Value) (ns A B : List Nd) (n : Nd) (ss : List Int) (es : List Ev) (p : List UInt8) (w : World) (E : Int) (Post : World → Prop)
    (h : Grow w F b z vn vs ve ns ss es) (hF : ∀ k, w.heap.size ≤ k → F k) (T : NThere ns A n B p) (hl : ns.length ≤ 400) (hk : n.n = 0) (hp : p.length ≤ 140737488355328) (hes : es.length ≤ 99998)
    (hpar : ∀ W vn' ve', Grow W F b z vn' vs ve' (A ++ B) ss (es ++ [⟨2, p⟩]) → w.heap.size ≤ W.heap.size → Touch F w W → Calls Tryz.prog 61 #[.pointer (some ⟨b, 0, none⟩), .string ⟨(dirOf p).toArray⟩, .int .i64 (-1)] W fun e w' => e = .returned (.int .i64 E) ∧ Post w') :
    Calls Tryz.prog 41 #[.pointer (some ⟨b, 0, none⟩), .string ⟨p.toArray⟩] w fun e w' => e = .returned (.int .i64 E) ∧ Post w' := by
  have CF := fun W (hW : Below w.heap.size w W) => nfind_there vn ns A B n p W (h.n.next hW).seq (by omega) T
  obtain ⟨g, cap, rfl, hr, hgb, hFg⟩ := h.nrow (by rw [T.eq]; simp)
  have c1 := h.c1
  have HG := hide h
  have HE := hide T.eq
  have HF := hide hF
  have HP := hide hpar
  have hlen : ns.length = A.length + B.length + 1 := by rw [T.eq]; simp; omega
  have hlt : A.length < ns.length := by omega
  have HL := hide hlen
  have CD := fun W (ho : OwnR W g cap (A ++ n :: B)) => ndelete_any g cap A B n ns.length W ho (unhide HL) hl
  have CS := fun W => split_any p W
  have HCD := hide CD
  have HCS := hide CS
  clear h hr T hF hpar CD CS hlen
  go_enter Tryz.func41, Tryz.ntmps41
  go_wp2_with fail
  refine (CF _ (Below.refl _ _)).mono ?_
  rintro e w1 ⟨rfl, hb1⟩
  have g1 := (unhide HG).next hb1
  have d1 := g1.c1
  obtain ⟨g', cap', he, hr, _, _⟩ := g1.nrow (by rw [unhide HE]; simp)
  simp only [Value.slice.injEq, Option.some.injEq, Addr.mk.injEq, and_true] at he
  obtain ⟨rfl, _, rfl⟩ := he
  have r8 := hr.row.n8 (i := A.length) (x := n) (by rw [unhide HE]; exact nat_at A n B)
  rw [Nat.zero_add, hk] at r8
  have HB := hide hb1
  have HG1 := hide g1
  have HR := hide (show OwnR w1 g cap (A ++ n :: B) by rw [← unhide HE]; exact hr)
  clear CF c1 g1 hr hb1
  go_wp2_with fail
  rw [show ((A.length : Int) + 1) = ((A.length + 1 : Nat) : Int) from by omega]
  refine (unhide HCD _ (unhide HR)).mono ?_
  rintro e w2 ⟨rfl, ho2, hg2⟩
  have m1 : w2.cell? ⟨b, 1, none⟩ = some (.slice (some ⟨g, 0, none⟩) ns.length cap) := hg2.cell d1 (fun e => hgb (Option.some.inj e).symm)
  have l1 : w2.frozen? ⟨b, 1, none⟩ = false := (World.frozen?_of_block (hg2.block b (unhide HG1).lt (fun e => hgb (Option.some.inj e).symm))).trans ((unhide HG1).fz 1)
  have g2 := (unhide HG1).nd (vn' := .slice (some ⟨g, 0, none⟩) (A.length + B.length) cap) (ns' := A ++ B) (fun k hk => unhide HF k (by have := (unhide HB).size; omega)) hg2 (.inr ⟨g, cap, by rw [List.length_append], Nat.zero_le _, ho2⟩) (.inl rfl)
  have t2 : Touch F w (w2.setCell ⟨b, 1, none⟩ (.slice (some ⟨g, 0, none⟩) (A.length + B.length) cap)) := ((Touch.of_below (unhide HB)).trans (Touch.of_grown hg2 (fun k e => by cases e; exact hFg))).trans (Touch.set g2.fb _)
  have HG2 := hide g2
  have HT2 := hide t2
  clear g2 t2 ho2 hg2 d1 r8 HR
  go_wp2_with fail
  refine (tell_any F b z _ vs ve _ ss es 2 p _ (unhide HG2) (fun k hk => unhide HF k (by have := (unhide HT2).size; omega)) hp (by omega)).mono ?_
  rintro e w3 ⟨rfl, ve', g3, t3⟩
  have HG3 := hide g3
  have HT3 := hide ((unhide HT2).trans t3)
  clear g3 t3 m1 l1
  go_wp2_with fail
  refine (unhide HCS _).mono ?_
  rintro e w4 ⟨rfl, hb4⟩
  have HG4 := hide ((unhide HG3).next hb4)
  have HT4 := hide ((unhide HT3).trans (Touch.of_below hb4))
  clear hb4
  go_wp2_with fail
  refine (unhide HP _ _ _ (unhide HG4) (unhide HT4).size (unhide HT4)).mono ?_
  rintro e w5 ⟨rfl, hp5⟩
  have HP5 := hide hp5
  clear hp5
  go_wp2_with fail
  go_ret
  exact ⟨rfl, unhide HP5⟩

/-- a node goes, and its parent has room -/
theorem remove_ok (F : Nat → Prop) (b : Nat) (z : Int) (vn vs ve : Value) (ns A B A' B' : List Nd) (n u : Nd) (ss : List Int) (es : List Ev) (p : List UInt8) (w : World)
    (h : Grow w F b z vn vs ve ns ss es) (hF : ∀ k, w.heap.size ≤ k → F k) (T : NThere ns A n B p) (T' : NThere (A ++ B) A' u B' (dirOf p)) (hl : ns.length ≤ 400) (hk : n.n = 0) (hu : 0 ≤ u.k ∧ u.k < 2147483647) (hn : 0 ≤ u.n ∧ u.n ≤ 1000) (hp : p.length ≤ 140737488355328) (hd : (dirOf p).length ≤ 140737488355328) (hes : es.length ≤ 99998) :
    Calls Tryz.prog 41 #[.pointer (some ⟨b, 0, none⟩), .string ⟨p.toArray⟩] w fun e w' => e = .returned (.int .i64 0) ∧ ∃ vn' ve', Grow w' F b z vn' vs ve' (rmN z ns p) ss (es ++ [⟨2, p⟩, ⟨4, dirOf p⟩]) ∧ Touch F w w' := by
  refine remove_main F b z vn vs ve ns A B n ss es p w 0 _ h hF T hl hk hp hes (fun W vn' ve' hG hs ht => ?_)
  have hlen : (A ++ B).length ≤ 400 := by have := congrArg List.length T.eq; simp at this ⊢; omega
  refine (parent_ok F b z vn' vs ve' (A ++ B) A' B' u ss _ (dirOf p) (-1) W hG (fun k hk => hF k (by omega)) T' hlen hu hn (by omega) hd (by simp; omega)).mono ?_
  rintro e w' ⟨rfl, ve2, g, t⟩
  refine ⟨rfl, vn', ve2, ?_, ht.trans t⟩
  rw [rmN, T.drop, T'.bump]
  simpa using g
theorem remove_full (F : Nat → Prop) (b : Nat) (z : Int) (vn vs ve : Value) (ns A B A' B' : List Nd) (n u : Nd) (ss : List Int) (es : List Ev) (p : List UInt8) (w : World)
    (h : Grow w F b z vn vs ve ns ss es) (hF : ∀ k, w.heap.size ≤ k → F k) (T : NThere ns A n B p) (T' : NThere (A ++ B) A' u B' (dirOf p)) (hl : ns.length ≤ 400) (hk : n.n = 0) (hu : u.k = 2147483647) (hp : p.length ≤ 140737488355328) (hes : es.length ≤ 99998) :
    Calls Tryz.prog 41 #[.pointer (some ⟨b, 0, none⟩), .string ⟨p.toArray⟩] w fun e w' => e = .returned (.int .i64 6) ∧ Touch F w w' := by
  refine remove_main F b z vn vs ve ns A B n ss es p w 6 _ h hF T hl hk hp hes (fun W vn' ve' hG hs ht => ?_)
  have hlen : (A ++ B).length ≤ 400 := by have := congrArg List.length T.eq; simp at this ⊢; omega
  refine (parent_full F b z vn' vs ve' (A ++ B) A' B' u ss _ (dirOf p) (-1) W hG T' hlen hu).mono ?_
  rintro e w' ⟨rfl, t⟩
  exact ⟨rfl, ht.trans t⟩

end Go.Proofs.YtcplpbelficbeaaGreatDoor

namespace Go.Proofs.YtcplpbelficbeaaGreatDoor
open Go.RowKit
set_option maxRecDepth 10000 in

set_option maxHeartbeats 2000000 in
theorem iclone_some (a : Addr) (cap : Nat) (ss : List Int) (w : World) (hl : ss.length ≤ 2147483647) (hc : ∀ j u, (cellsL ss)[j]? = some u → w.cell? (a.add j) = some u) :
    Calls Tryz.prog 37 #[.slice (some a) ss.length cap] w fun e w' => ∃ v', e = .returned v' ∧ OwnS w' w.heap.size v' ss ∧ Below w.heap.size w w' := by
  have q22 : ∀ (w : World) (a : Option Addr) (n c n' c' : Nat), (binOp .eql 22 (.slice a n c) (.slice none n' c')).run Tryz.prog w = .ok (.bool a.isNone) w := fun w a n c n' c' => Lib.run_eql_slice_nil w _ _ a n c n' c' Tryz.underlying22
  have H : Hid (∀ j u, (cellsL ss)[j]? = some u → w.cell? (a.add j) = some u) := hc
  clear hc
  obtain ⟨i0, hi0, hz0, hz1, hz2⟩ := iinfo
  go_enter Tryz.func37, Tryz.ntmps37
  go_wp2_with (at_builtin; refine wpList_append_own _ rfl _ _ 22 rfl w.heap.size 3 i0 _ 1 8 Tryz.underlying22 hi0 hz0 hz1 hz2 rfl (by decide) _ _ _ rfl (World.ownsRow_made w #[] 0 (Nat.le_refl _) (Nat.zero_le _) (by simp)) a ss.length cap (cellsL ss) rfl ?qc1 ?qc2 ?qc3 ?qc4 ?qc5 ?qc6 ?_)
  case qc1 => exact (cellsI_length ss).trans (Nat.mul_one _).symm
  case qc2 =>
    intro j u hj
    exact Lib.cell?_alloc_some _ (H.out j u hj)
  case qc3 => exact cellsL_one ss
  case qc4 => simp only [maxLen]; omega
  case qc5 => omega
  case qc6 => simp
  intro v' w1 hown hgrow hnil
  go_wp2
  go_ret
  refine ⟨v', rfl, OwnS.of_row hown, ?_⟩
  exact ((Below.refl _ w).alloc (Nat.le_refl _) _).grown hgrow (by simp) (by intro k hk; simp [Value.ownBlock] at hk; omega)
set_option maxRecDepth 10000 in
set_option maxHeartbeats 400000 in
theorem iclone_nil (n c : Nat) (w : World) :
    Calls Tryz.prog 37 #[.slice none n c] w fun e w' => e = .returned (.slice none 0 0) ∧ w' = w := by
  have q22 : ∀ (w : World) (a : Option Addr) (n c n' c' : Nat), (binOp .eql 22 (.slice a n c) (.slice none n' c')).run Tryz.prog w = .ok (.bool a.isNone) w := fun w a n c n' c' => Lib.run_eql_slice_nil w _ _ a n c n' c' Tryz.underlying22
  go_enter Tryz.func37, Tryz.ntmps37
  go_wp2
  go_ret
  exact ⟨rfl, rfl⟩
theorem iclone_any (v : Value) (ss : List Int) (w : World) (hv : SeqV w v ss) (hl : ss.length ≤ 2147483647) :
    Calls Tryz.prog 37 #[v] w fun e w' => ∃ v', e = .returned v' ∧ OwnS w' w.heap.size v' ss ∧ Below w.heap.size w w' := by
  rcases hv with ⟨a, cap, rfl, rfl, _⟩ | ⟨b, off, cap, rfl, _, _, hb, _, hr⟩
  · cases a with
    | none => exact (iclone_nil 0 cap w).mono fun e w' ⟨he, hw⟩ => ⟨_, he, .inl ⟨rfl, rfl⟩, by rw [hw]; exact Below.refl _ _⟩
    | some a => exact iclone_some a cap [] w (by simp) (fun j u h => by simp [cellsL_nil] at h)
  · exact iclone_some ⟨b, off, none⟩ cap ss w hl (fun j u h => by rw [Addr.add_lit]; exact hr j u h)

theorem step_app_nd {w : World} {ops : Array Oper} {o : Oper} {a : Act} {K : Act → World → Prop} {Q : Exit → Act → World → Prop} {E : Prop} (hgd : Region.wanted o (yielded ops a.tmps) = true) (s x : Operand)
    (ho : o.op = .call { callee := .builtin .append, args := #[s, x], argTypes := #[24, 24] })
    (v : Value) (ns : List Nd) (hs : a.eval s = v) (hown : OwnS w 0 v ns)
    (q : Nat) (hx : a.eval x = .slice (some ⟨q, 0, none⟩) 1 1) (t : Nd) (hnews : OneR w q t) (hl : ns.length ≤ 100000)
    (h : ∀ a' c' w', OwnS w' 0 (.slice a' (ns.length + 1) c') (ns ++ [t]) → w.grownBy w' v.ownBlock → ((Value.slice a' (ns.length + 1) c').ownBlock = v.ownBlock ∨ (Value.slice a' (ns.length + 1) c').ownBlock = some w.heap.size) → K (a.put o.dst (.slice a' (ns.length + 1) c')) w') :
    if Region.wanted o (yielded ops a.tmps) = true then Oper.wp Tryz.prog o a w K Q else E := by
  rw [if_pos hgd]
  obtain ⟨i0, hi0, hz0, hz1, hz2⟩ := ninfo
  obtain ⟨v', w', hr, h2, h3, _, h5⟩ := run_append_own_at (P := Tryz.prog) w 0 24 o.type 52 i0 _ 9 88 Tryz.underlying24 hi0 hz0 hz1 hz2 rfl (by decide) v ns.length (cellsL ns) hown.row ⟨q, 0, none⟩ 1 1 (ncells t) rfl (one_news hnews) (Lay.one t) (by simp only [maxLen]; omega) (by omega) (Nat.zero_le _)
  have h2' : OwnS w' 0 v' (ns ++ [t]) := OwnS.of_row (by rw [List.length_append, cellsL_snoc]; exact h2)
  obtain ⟨a', c', rfl, _⟩ := h2'.slice
  have hlen : (ns ++ [t]).length = ns.length + 1 := by simp
  rw [hlen] at h2' hr h5
  unfold Oper.wp execOp
  simp only [ho, resolve, invoke, builtin, Sem.run_bind, Sem.run_pure, Result.andThen_ok, List.map_toArray, List.map_cons, List.map_nil, hs, hx, hr]
  exact h a' c' w' h2' h3 h5
theorem one_newN (w : World) (n : Nd) : OneR (w.alloc (.cells #[.string ⟨n.p.toArray⟩, .string ⟨n.d.toArray⟩, .int .i64 n.c, .int .i64 n.m, .int .i64 n.q, .int .i64 n.v, .int .i64 n.k, .int .i64 n.o, .int .i64 n.n] 52)) w.heap.size n := heap_alloc_new w _

set_option maxRecDepth 20000 in
set_option maxHeartbeats 4000000 in
theorem begun_any (t : Tr) (vn vs : Value) (z : Int) (w : World) (hn : SeqV w vn t.ns) (hs : SeqV w vs t.ss) (hl : t.ns.length ≤ 400) (hls : t.ss.length ≤ 2147483647) (hslim : ∀ n ∈ t.ns, n.p.length ≤ 140737488355328 ∧ n.d.length ≤ 140737488355328) :
    Calls Tryz.prog 18 #[.agg #[.int .i64 t.z, vn, vs], .int .i64 z] w fun e w' =>
      ∃ b vn' vs', e = .returned (.pointer (some ⟨b, 0, none⟩)) ∧ Grow w' (fun k => w.heap.size ≤ k) b z vn' vs' (.slice none 0 0) t.ns t.ss [] ∧ Below w.heap.size w w' := by
  have CC := hide (fun n (hn : n ∈ t.ns) W => tcopied_any n W (hslim n hn).1 (hslim n hn).2)
  have CI := hide (fun W (hW : Below w.heap.size w W) => iclone_any vs t.ss W (hs.next hW) hls)
  have KR : ∀ W, Below w.heap.size w W → ∀ k x, t.ns[k]? = some x → ∃ b off cap, vn = .slice (some ⟨b, off, none⟩) t.ns.length cap ∧ b < w.heap.size ∧ RowAt W b off (cellsL t.ns) := fun W hW k x hx => by
    obtain ⟨b, off, cap, e, hb, hr, _, _⟩ := seq_row hn (fun h0 => by obtain ⟨h1, _⟩ := List.getElem?_eq_some_iff.1 hx; rw [h0] at h1; simp at h1)
    exact ⟨b, off, cap, e, hb, hr.kept hW hb⟩
  have HKR := hide KR
  obtain ⟨na, nc, rfl⟩ := seq_slice hn
  obtain ⟨sa, sc, rfl⟩ := seq_slice hs
  clear hn hs hslim KR
  unfold nodeV at CC
  have S0 : ∀ W, W = (w.alloc (.cells #[.int .i64 t.z, .slice na t.ns.length nc, .slice sa t.ss.length sc] 26)).alloc (.cells #[.int .i64 z, .slice none 0 0, .slice none 0 0, .slice none 0 0] 62) →
      Grow W (fun k => w.heap.size + 1 ≤ k) (w.heap.size + 1) z (.slice none 0 0) (.slice none 0 0) (.slice none 0 0) [] [] [] ∧ Touch (fun k => w.heap.size + 1 ≤ k) (w.alloc (.cells #[.int .i64 t.z, .slice na t.ns.length nc, .slice sa t.ss.length sc] 26)) W := by
    rintro W rfl
    refine ⟨⟨?_, Nat.le_refl _, .inl ⟨rfl, rfl⟩, .inl ⟨rfl, rfl⟩, .inl ⟨rfl, rfl⟩, (by intro k hk; cases hk), (by intro k hk; cases hk), (by intro k hk; cases hk), (by intro k hk; cases hk), (by intro k hk; cases hk)⟩, ?_⟩
    · have := heap_alloc_new (w.alloc (.cells #[.int .i64 t.z, .slice na t.ns.length nc, .slice sa t.ss.length sc] 26)) (.cells #[.int .i64 z, .slice none 0 0, .slice none 0 0, .slice none 0 0] 62)
      rw [show (w.alloc (.cells #[.int .i64 t.z, .slice na t.ns.length nc, .slice sa t.ss.length sc] 26)).heap.size = w.heap.size + 1 by simp] at this
      exact this
    · exact Touch.of_below (allocB _ _)
  have HS0 := hide S0
  have BX : ∀ W, Touch (fun k => w.heap.size + 1 ≤ k) (w.alloc (.cells #[.int .i64 t.z, .slice na t.ns.length nc, .slice sa t.ss.length sc] 26)) W → Below w.heap.size w W ∧ W.cell? ⟨w.heap.size, 2, none⟩ = some (.slice sa t.ss.length sc) ∧ w.heap.size + 1 ≤ W.heap.size := by
    intro W h
    have hb : W.heap[w.heap.size]? = _ := (h.block w.heap.size (by simp) (by omega)).trans (heap_alloc_new w _)
    refine ⟨(allocB w _).trans (h.below (by simp) (fun k hk => by omega)), by simp [World.cell?, hb], by have := h.size; simpa using this⟩
  have HBX := hide BX
  clear S0 BX
  go_enter Tryz.func18, Tryz.ntmps18
  go_wp2_with fail
  go_loopg [18] t.ns.length (fun kx s18 wr => ∃ (k : Nat) (vn' : Value), s18 = .int .i64 k ∧ k ≤ t.ns.length ∧ t.ns.length - k ≤ kx ∧ Hid (Grow wr (fun k => w.heap.size + 1 ≤ k) (w.heap.size + 1) z vn' (.slice none 0 0) (.slice none 0 0) (t.ns.take k) [] []) ∧ Hid (Touch (fun k => w.heap.size + 1 ≤ k) (w.alloc (.cells #[.int .i64 t.z, .slice na t.ns.length nc, .slice sa t.ss.length sc] 26)) wr))
  case atStart =>
    obtain ⟨g0, t0⟩ := unhide HS0 _ rfl
    exact ⟨0, _, rfl, Nat.zero_le _, Nat.le_refl _, hide g0, hide t0⟩
  case round =>
    obtain ⟨k, vn', rfl, hk, hg, hG, hT⟩ := hrel
    obtain ⟨hBw, hc2, hsz⟩ := unhide HBX wr (unhide hT)
    have HBw := hide hBw
    by_cases hlt : k < t.ns.length
    · obtain ⟨x, hx⟩ : ∃ x, t.ns[k]? = some x := ⟨_, List.getElem?_eq_getElem hlt⟩
      obtain ⟨b, off, cap, he, hb, q⟩ := unhide HKR wr hBw k x hx
      simp only [Value.slice.injEq] at he
      obtain ⟨rfl, _, rfl⟩ := he
      have d0 := q.n0 hx
      have d1 := q.n1 hx
      have d2 := q.n2 hx
      have d3 := q.n3 hx
      have d4 := q.n4 hx
      have d5 := q.n5 hx
      have d6 := q.n6 hx
      have d7 := q.n7 hx
      have d8 := q.n8 hx
      have hbw : b < wr.heap.size := by omega
      have CX := fun W => unhide CC x (List.mem_of_getElem? hx) W
      have HT1 := hide (show t.ns.take (k + 1) = t.ns.take k ++ [x] by rw [List.take_add_one, hx]; rfl)
      have hlk : (t.ns.take k).length ≤ 400 := by simp; omega
      obtain ⟨P, hP⟩ : ∃ P, t.ns.take k = P := ⟨_, rfl⟩
      rw [hP] at hG hlk HT1
      clear q hx hP
      obtain ⟨va, vc, rfl, _⟩ := (unhide hG).n.slice
      have h := unhide hG
      have c1 := h.c1
      have f1 := h.fz 1
      have K1 := hide (fun w1 (hb1 : Below wr.heap.size wr w1) => (⟨(h.next hb1).c1, (h.next hb1).fz 1, (h.next hb1).lt, ((h.next hb1).next (allocB _ _)).c1⟩ : w1.cell? ⟨w.heap.size + 1, 1, none⟩ = some (.slice va P.length vc) ∧ w1.frozen? ⟨w.heap.size + 1, 1, none⟩ = false ∧ w.heap.size + 1 < w1.heap.size ∧ (w1.alloc (.cells #[.string ⟨x.p.toArray⟩, .string ⟨x.d.toArray⟩, .int .i64 x.c, .int .i64 x.m, .int .i64 x.q, .int .i64 x.v, .int .i64 x.k, .int .i64 x.o, .int .i64 x.n] 52)).cell? ⟨w.heap.size + 1, 1, none⟩ = some (.slice va P.length vc)))
      have KE := hide (fun w1 (hb1 : Below wr.heap.size wr w1) => (h.next hb1).n.next (allocB w1 (.cells #[.string ⟨x.p.toArray⟩, .string ⟨x.d.toArray⟩, .int .i64 x.c, .int .i64 x.m, .int .i64 x.q, .int .i64 x.v, .int .i64 x.k, .int .i64 x.o, .int .i64 x.n] 52)))
      have K2 : ∀ (w1 w2 : World) (a2 : Option Addr) (c2 : Nat), Below wr.heap.size wr w1 → OwnS w2 0 (.slice a2 (P.length + 1) c2) (P ++ [x]) → (w1.alloc (.cells #[.string ⟨x.p.toArray⟩, .string ⟨x.d.toArray⟩, .int .i64 x.c, .int .i64 x.m, .int .i64 x.q, .int .i64 x.v, .int .i64 x.k, .int .i64 x.o, .int .i64 x.n] 52)).grownBy w2 (Value.slice va P.length vc).ownBlock →
          ((Value.slice a2 (P.length + 1) c2).ownBlock = (Value.slice va P.length vc).ownBlock ∨ (Value.slice a2 (P.length + 1) c2).ownBlock = some (w1.alloc (.cells #[.string ⟨x.p.toArray⟩, .string ⟨x.d.toArray⟩, .int .i64 x.c, .int .i64 x.m, .int .i64 x.q, .int .i64 x.v, .int .i64 x.k, .int .i64 x.o, .int .i64 x.n] 52)).heap.size) →
          w2.cell? ⟨w.heap.size + 1, 1, none⟩ = some (.slice va P.length vc) ∧ w2.frozen? ⟨w.heap.size + 1, 1, none⟩ = false ∧ Grow (w2.setCell ⟨w.heap.size + 1, 1, none⟩ (.slice a2 (P.length + 1) c2)) (fun k => w.heap.size + 1 ≤ k) (w.heap.size + 1) z (.slice a2 (P.length + 1) c2) (.slice none 0 0) (.slice none 0 0) (P ++ [x]) [] [] ∧ Touch (fun k => w.heap.size + 1 ≤ k) wr (w2.setCell ⟨w.heap.size + 1, 1, none⟩ (.slice a2 (P.length + 1) c2)) := by
        intro w1 w2 a2 c2 hb1 ho2 hg2 hl2
        have g1 := (h.next hb1).next (allocB w1 (.cells #[.string ⟨x.p.toArray⟩, .string ⟨x.d.toArray⟩, .int .i64 x.c, .int .i64 x.m, .int .i64 x.q, .int .i64 x.v, .int .i64 x.k, .int .i64 x.o, .int .i64 x.n] 52))
        have n3 : ¬ (Value.slice va P.length vc).ownBlock = some (w.heap.size + 1) := fun e => (h.fn _ e).2 rfl
        refine ⟨hg2.cell g1.c1 (fun e => n3 e.symm), (World.frozen?_of_block (hg2.block _ g1.lt (fun e => n3 e.symm))).trans (g1.fz 1), g1.nd (fun k hk => by have := hb1.size; simp at hk; omega) hg2 ho2 ?_, ?_⟩
        · rcases hl2 with e | e
          · exact .inl e
          · exact .inr ⟨_, Nat.le_refl _, e⟩
        · exact (((Touch.of_below hb1).trans (Touch.of_below (allocB _ _))).trans (Touch.of_grown hg2 (fun k e => (h.fn k e).1))).trans (Touch.set h.fb _)
      have HK2 := hide K2
      have hbn : w.heap.size + 1 ≠ wr.heap.size := by have := h.lt; omega
      have hbl := h.lt
      clear h K2
      go_wp2_with fail
      go_region_law (first
        | (refine step_app_nd (by kernel_rfl) _ _ (by rfl) (.slice va P.length vc) P (by rfl) (unhide KE w1 (unhide HB1)) w1.heap.size (by rfl) x (one_newN w1 x) (by omega) ?_; intro a2 c2 w2 ho2 hg2 hl2; obtain ⟨m3, l3, g2, t2⟩ := unhide HK2 w1 w2 a2 c2 (unhide HB1) ho2 hg2 hl2; have HG2 := hide g2; have HT2 := hide ((unhide hT).trans t2); clear ho2 hg2 hl2 g2 t2)
        | (go_simp; refine (CX _).mono ?_; rintro e w1 ⟨rfl, hb1⟩; have HB1 : Hid (Below wr.heap.size wr w1) := (by first | exact nbox_then (nbelow_drew hb1) | exact nbox_then hb1); obtain ⟨e3, k3, hbn2, d3a⟩ := unhide K1 w1 (unhide HB1); clear hb1))
      all_goals
        go_wp2_with fail
        go_roundg (t.ns.length - (k + 1))
        case measure => omega
        case rel => exact ⟨k + 1, _, rfl, by omega, Nat.le_refl _, (by rw [unhide HT1]; exact HG2), HT2⟩
    · obtain rfl : k = t.ns.length := by omega
      clear hBw
      go_wp2_with fail
      refine (unhide CI wr (unhide HBw)).mono ?_
      rintro e w1 ⟨vs', rfl, ho, hb1⟩
      have h := (unhide hG).next hb1
      have c2 := h.c2
      have f2 := h.fz 2
      have g2 := (unhide hG).se (V := w1) (vs' := vs') (ss' := t.ss) (fun k hk => by omega) ⟨hb1.os, hb1.tape, hb1.output, hb1.size, fun k hk _ => hb1.block k hk⟩ (ho.lower (Nat.zero_le _)) (by
        rcases ho with ⟨rfl, _⟩ | ⟨g, cap, rfl, hB, _⟩
        · exact .inl rfl
        · exact .inr ⟨g, hB, rfl⟩)
      have hne : w.heap.size + 1 ≠ w.heap.size := by omega
      rw [List.take_length] at g2
      have HG2 := hide (g2.cut (G := fun k => w.heap.size ≤ k) (fun k _ hk => by omega))
      have HB2 := hide (nnext (unhide HBw) hb1)
      obtain ⟨sa', sc', rfl, _⟩ := ho.slice
      clear h g2 ho hb1
      go_wp2_with fail
      go_ret
      exact ⟨w.heap.size + 1, _, _, rfl, unhide HG2, (unhide HB2).setCell (by simp) _⟩

end Go.Proofs.YtcplpbelficbeaaGreatDoor
