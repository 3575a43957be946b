/-
  aviaryref's GoodTree: the walk.
  aviaryref's Apply: its boxes; what it refuses at once: the walks.
  aviaryref's Apply: what it makes, ahead of the change: words on memory.
  Rows of the call's own, whatever their elements are: their heads, their values.
  What watch.own, copied, setOff and its closures answer: the walks.
  What watch.setOff and the closures of Fire and Drop answer: the walks.
  What slices.IndexFunc answers at watches, with the closures of Fire and Drop: the walks.
-/
import Derived.Test.YtoacignhobchbaaGreatDoorSUAC
import Derived.Test.YtoacignhobchbaaGreatDoorSUAA
import Derived.Test.YtoacignhobchbaaGreatDoorSUJ
import Derived.Deep.QuietTactic
import Derived.BigQuiet
import Derived.Deep.Cut
import Derived.Deep.CutRange
import Derived.Lib.QuietBelow
import Derived.Test.YtoacignhobchbaaGreatDoorSUK
import Derived.Test.YtoacignhobchbaaGreatDoorSUA
import Derived.Test.YtoacignhobchbaaGreatDoorSUC
import Derived.Lib.ConvBytes
import Derived.Lib.Strings
import Derived.OwnWalk
import Derived.WalkSmall
import Derived.Maps.AppendAt
import Derived.RegionTactic
import Derived.Laws.EntriesVeiled
import Derived.Test.YtoacignhobchbaaGreatDoorSUE
import Derived.Test.YtoacignhobchbaaGreatDoorSUQ
import Derived.Test.YtoacignhobchbaaGreatDoorShelf
import Derived.Deep.RegionHeld3
import Derived.Laws.MakeOwn
import Derived.Lib.SliceRun
import Derived.Lib.AppendZerosOnto
namespace Go.Proofs.YtoacignhobchbaaGreatDoor
open Go.RowKit

/-- a tree's box -/
structure GT (w W : World) (z : Int) (vn vs : Value) : Prop where
  t : W.heap[w.heap.size]? = some (.cells #[.int .i64 z, vn, vs] 34 (0, 0))
  b : Below w.heap.size w W
theorem GT.new (w : World) (z : Int) (vn vs : Value) : GT w (w.alloc (.cells #[.int .i64 z, vn, vs] 34)) z vn vs := ⟨heap_alloc_new w _, allocB _ _⟩
theorem GT.lt {w W : World} {z : Int} {vn vs : Value} (h : GT w W z vn vs) : w.heap.size < W.heap.size := (Array.getElem?_eq_some_iff.1 h.t).1
theorem GT.next {w W V : World} {z : Int} {vn vs : Value} (h : GT w W z vn vs) (hb : Below W.heap.size W V) : GT w V z vn vs := ⟨(hb.block _ h.lt).trans h.t, nnext h.b hb⟩
theorem GT.cells {w W : World} {z : Int} {vn vs : Value} (h : GT w W z vn vs) : W.cell? ⟨w.heap.size, 0, none⟩ = some (.int .i64 z) ∧ W.cell? ⟨w.heap.size, 1, none⟩ = some vn ∧ W.cell? ⟨w.heap.size, 2, none⟩ = some vs := by
  have h1 := h.t
  refine ⟨?_, ?_, ?_⟩ <;> simp [World.cell?, h1]
/-- how far the parents are told -/
def dirsK (ns : List Nd) (k : Nat) : List (List UInt8) := (ns.take k).map (fun n => dirOf n.p) ++ List.replicate (ns.length - k) []
/-- what loop 3's round reads: the tree's box, the parents, the nodes, the node's box -/
structure Loo (w wr W : World) (b off cap D : Nat) (sa : Option Addr) (sc : Nat) (t : Tr) (n : Nd) : Prop where
  g : GT w W t.z (.slice (some ⟨b, off, none⟩) t.ns.length cap) (.slice sa t.ss.length sc)
  d : OwnR W D t.ns.length (dirsK t.ns t.ns.length)
  r : RowAt W b off (cellsL t.ns)
  n : OneR W wr.heap.size n
  bl : b < wr.heap.size
theorem Loo.new {w wr : World} {b off cap D : Nat} {sa : Option Addr} {sc : Nat} {t : Tr} {n : Nd} (hT : GT w wr t.z (.slice (some ⟨b, off, none⟩) t.ns.length cap) (.slice sa t.ss.length sc)) (hD : OwnR wr D t.ns.length (dirsK t.ns t.ns.length)) (hr : RowAt wr b off (cellsL t.ns)) (hb : b < wr.heap.size) : Loo w wr (wr.alloc (.cells #[.string ⟨n.p.toArray⟩, .string ⟨n.d.toArray⟩, .int .i64 n.c, .int .i64 n.m, .int .i64 n.q, .int .i64 n.v, .int .i64 n.k, .int .i64 n.o, .int .i64 n.n] 70)) b off cap D sa sc t n :=
  ⟨hT.next (allocB _ _), hD.next (allocB _ _), hr.kept (allocB _ _) hb, one_newN wr n, hb⟩
theorem Loo.next {w wr W V : World} {b off cap D : Nat} {sa : Option Addr} {sc : Nat} {t : Tr} {n : Nd} (h : Loo w wr W b off cap D sa sc t n) (hb : Below W.heap.size W V) : Loo w wr V b off cap D sa sc t n := by
  have h1 : wr.heap.size < W.heap.size := (Array.getElem?_eq_some_iff.1 (show W.heap[wr.heap.size]? = _ from h.n)).1
  exact ⟨h.g.next hb, h.d.next hb, h.r.kept hb (Nat.lt_trans h.bl h1), h.n.keptN hb, h.bl⟩

end Go.Proofs.YtoacignhobchbaaGreatDoor
namespace Go.Proofs.YtoacignhobchbaaGreatDoor
open Go.RowKit
/-- the boxes of the tree, of the transaction, of the answer -/
structure RB (w W : World) (z : Int) (vn vs : Value) (x : WTxn) : Prop where
  t : W.heap[w.heap.size]? = some (.cells #[.int .i64 z, vn, vs] 34 (0, 0))
  x : W.heap[w.heap.size + 1]? = some (.cells #[.int .i64 x.z, .int .i64 x.o, .int .i64 x.s, .string ⟨x.p.toArray⟩, .string ⟨x.d.toArray⟩, .int .i64 x.v, .int .i64 x.w] 53 (0, 0))
  r : W.heap[w.heap.size + 2]? = some (.cells #[.int .i64 0, .slice none 0 0, .slice none 0 0] 34 (0, 0))
  b : Below w.heap.size w W
section
variable {w W V : World} {z : Int} {vn vs : Value} {x : WTxn}
theorem RB.lt (h : RB w W z vn vs x) : w.heap.size + 2 < W.heap.size := (Array.getElem?_eq_some_iff.1 h.r).1
theorem RB.next (h : RB w W z vn vs x) (hb : Below W.heap.size W V) : RB w V z vn vs x :=
  ⟨(hb.block _ (by have := h.lt; omega)).trans h.t, (hb.block _ (by have := h.lt; omega)).trans h.x, (hb.block _ h.lt).trans h.r, nnext h.b hb⟩
theorem RB.xc (h : RB w W z vn vs x) : W.cell? ⟨w.heap.size + 1, 0, none⟩ = some (.int .i64 x.z) ∧ W.cell? ⟨w.heap.size + 1, 1, none⟩ = some (.int .i64 x.o) ∧ W.cell? ⟨w.heap.size + 1, 2, none⟩ = some (.int .i64 x.s) ∧ W.cell? ⟨w.heap.size + 1, 3, none⟩ = some (.string ⟨x.p.toArray⟩) ∧ W.cell? ⟨w.heap.size + 1, 4, none⟩ = some (.string ⟨x.d.toArray⟩) ∧ W.cell? ⟨w.heap.size + 1, 5, none⟩ = some (.int .i64 x.v) ∧ W.cell? ⟨w.heap.size + 1, 6, none⟩ = some (.int .i64 x.w) := by
  have h1 := h.x
  refine ⟨?_, ?_, ?_, ?_, ?_, ?_, ?_⟩ <;> simp [World.cell?, h1]
theorem RB.rc (h : RB w W z vn vs x) : (W.cell? ⟨w.heap.size + 2, 0, none⟩ = some (.int .i64 0) ∧ W.cell? ⟨w.heap.size + 2, 1, none⟩ = some (.slice none 0 0) ∧ W.cell? ⟨w.heap.size + 2, 2, none⟩ = some (.slice none 0 0)) ∧ W.frozen? ⟨w.heap.size + 2, 0, none⟩ = false ∧ W.frozen? ⟨w.heap.size + 2, 1, none⟩ = false ∧ W.frozen? ⟨w.heap.size + 2, 2, none⟩ = false := by
  have h1 := h.r
  refine ⟨⟨?_, ?_, ?_⟩, ?_, ?_, ?_⟩ <;> simp [World.cell?, World.frozen?, h1]
end
theorem RB.new (w : World) (z : Int) (vn vs : Value) (x : WTxn) : RB w (((w.alloc (.cells #[.int .i64 z, vn, vs] 34)).alloc (.cells #[.int .i64 x.z, .int .i64 x.o, .int .i64 x.s, .string ⟨x.p.toArray⟩, .string ⟨x.d.toArray⟩, .int .i64 x.v, .int .i64 x.w] 53)).alloc (.cells #[.int .i64 0, .slice none 0 0, .slice none 0 0] 34)) z vn vs x := by
  have e1 : (w.alloc (.cells #[.int .i64 z, vn, vs] 34)).heap.size = w.heap.size + 1 := by simp
  have e2 : ((w.alloc (.cells #[.int .i64 z, vn, vs] 34)).alloc (.cells #[.int .i64 x.z, .int .i64 x.o, .int .i64 x.s, .string ⟨x.p.toArray⟩, .string ⟨x.d.toArray⟩, .int .i64 x.v, .int .i64 x.w] 53)).heap.size = w.heap.size + 2 := by simp
  refine ⟨?_, ?_, ?_, nnext (nnext (allocB _ _) (allocB _ _)) (allocB _ _)⟩
  · rw [(allocB _ _).block _ (by simp; omega), (allocB _ _).block _ (by simp)]
    exact heap_alloc_new w _
  · rw [(allocB _ _).block _ (by simp)]
    have h := heap_alloc_new (w.alloc (.cells #[.int .i64 z, vn, vs] 34)) (.cells #[.int .i64 x.z, .int .i64 x.o, .int .i64 x.s, .string ⟨x.p.toArray⟩, .string ⟨x.d.toArray⟩, .int .i64 x.v, .int .i64 x.w] 53)
    rw [e1] at h
    exact h
  · have h := heap_alloc_new ((w.alloc (.cells #[.int .i64 z, vn, vs] 34)).alloc (.cells #[.int .i64 x.z, .int .i64 x.o, .int .i64 x.s, .string ⟨x.p.toArray⟩, .string ⟨x.d.toArray⟩, .int .i64 x.v, .int .i64 x.w] 53)) (.cells #[.int .i64 0, .slice none 0 0, .slice none 0 0] 34)
    rw [e2] at h
    exact h

end Go.Proofs.YtoacignhobchbaaGreatDoor

namespace Go.Proofs.YtoacignhobchbaaGreatDoor
open Go.RowKit
/-- blocks that the change may touch -/
def FB (m bp k : Nat) : Prop := m ≤ k ∧ k ≠ bp
/-- the boxes stay -/
theorem RB.touch {w W V : World} {z : Int} {vn vs : Value} {x : WTxn} {m bp : Nat} (h : RB w W z vn vs x) (hm : w.heap.size + 3 ≤ m) (ht : Touch (FB m bp) W V) : RB w V z vn vs x := by
  have hl := h.lt
  have nf : ∀ k, k < m → ¬ FB m bp k := fun k hk hf => by have := hf.1; omega
  refine ⟨(ht.block _ (by omega) (nf _ (by omega))).trans h.t, (ht.block _ (by omega) (nf _ (by omega))).trans h.x, (ht.block _ hl (nf _ (by omega))).trans h.r, h.b.trans (ht.below (by omega) (fun k hf => by have := hf.1; omega))⟩
end Go.Proofs.YtoacignhobchbaaGreatDoor

namespace Go.Proofs.YtoacignhobchbaaGreatDoor
open Go.RowKit

theorem ownr_owns {α : Type} [Lay α] {W : World} {g cap : Nat} {xs : List α} (h : OwnR W g cap xs) (B : Nat) (hB : B ≤ g) : W.ownsRow B (Lay.ty α) (Lay.k α) (.slice (some ⟨g, 0, none⟩) xs.length cap) xs.length (cellsL xs) :=
  OwnS.row (.inr ⟨g, cap, rfl, hB, h⟩)
theorem ownr_of {α : Type} [Lay α] {W : World} {B g cap n : Nat} {xs : List α} (h : W.ownsRow B (Lay.ty α) (Lay.k α) (.slice (some ⟨g, 0, none⟩) n cap) n (cellsL xs)) (hn : n = xs.length) : OwnR W g cap xs := by
  subst hn
  rcases OwnS.of_row h with ⟨h1, _⟩ | ⟨g', cap', h1, _, h2⟩
  · simp at h1
  · simp only [Value.slice.injEq, Option.some.injEq, Addr.mk.injEq, and_true, true_and] at h1
    obtain ⟨rfl, rfl⟩ := h1
    exact h2
theorem snoc_take {α : Type} {xs : List α} {k : Nat} {x : α} (h : xs[k]? = some x) : xs.take (k + 1) = xs.take k ++ [x] := by rw [List.take_add_one, h]; rfl
theorem grownO {w w' : World} {r : Option Nat} (h : w.grownBy w' r) (B : Nat) (hB : B ≤ w.heap.size) (hr : ∀ k, r = some k → B ≤ k) : Below B w w' := (Below.refl _ _).grown h hB hr
theorem hgrown_of {w w' : World} {r : Option Nat} (h : Below w.heap.size w w') : w.grownBy w' r := ⟨h.os, h.tape, h.output, h.size, fun k hk _ => h.block k hk⟩
theorem OwnR.head {α : Type} [Lay α] {W : World} {g cap : Nat} {A B : List α} (h : OwnR W g cap (A ++ B)) : OwnR W g cap A := by
  obtain ⟨rest, h1, h2, h4, h3⟩ := h
  refine ⟨cellsL B ++ rest, by rw [h1, cellsL_append, List.append_assoc], ?_, ?_, h3⟩
  · rw [List.length_append, cellsL_length B]
    rw [List.length_append, Nat.add_mul] at h2
    omega
  · rw [List.length_append] at h4; omega
end Go.Proofs.YtoacignhobchbaaGreatDoor

namespace Go.Proofs.YtoacignhobchbaaGreatDoor
open Go.RowKit
set_option maxRecDepth 10000 in

set_option maxHeartbeats 400000 in
theorem hclone_any (s : List UInt8) (w : World) (hs : s.length ≤ 281474976710656) :
    Calls Tryz.prog 69 #[.string ⟨s.toArray⟩] w fun e w' => e = .returned (.string ⟨s.toArray⟩) ∧ Below w.heap.size w w' := by
  have C := fun W => Tryz.stringslite_Clone ⟨s.toArray⟩ W (show (ByteArray.mk s.toArray).size ≤ _ from hs)
  go_enter Tryz.func69, Tryz.ntmps69
  go_wp2_with fail
  refine (C _).mono ?_
  rintro e w1 ⟨rfl, hb1⟩
  go_wp2_with fail
  go_ret
  exact ⟨rfl, hb1⟩

set_option maxRecDepth 10000 in
set_option maxHeartbeats 1000000 in
theorem wown_any (x : Wa) (w : World) (hx : x.p.length ≤ 140737488355328) :
    Calls Tryz.prog 73 #[waV x] w fun e w' => e = .returned (waV x) ∧ Below w.heap.size w w' := by
  obtain ⟨s, k, p⟩ := x
  unfold waV
  have C := fun W => hclone_any p W (by simp only at hx; omega)
  go_enter Tryz.func73, Tryz.ntmps73
  go_wp2_with fail
  refine (C _).mono ?_
  rintro e w1 ⟨rfl, hb1⟩
  have hB := nbox_then (nbox_then hb1)
  have c0 : w1.cell? ⟨w.heap.size, 0, none⟩ = some (.int .i64 s) := by rw [hb1.cell (p := ⟨w.heap.size, 0, none⟩) (by simp; omega)]; simp
  have c1 : w1.cell? ⟨w.heap.size, 1, none⟩ = some (.int .i64 k) := by rw [hb1.cell (p := ⟨w.heap.size, 1, none⟩) (by simp; omega)]; simp
  have c2 : w1.cell? ⟨w.heap.size, 2, none⟩ = some (.string ⟨p.toArray⟩) := by rw [hb1.cell (p := ⟨w.heap.size, 2, none⟩) (by simp; omega)]; simp
  have f2 : w1.frozen? ⟨w.heap.size, 2, none⟩ = false := by rw [hb1.frozen (p := ⟨w.heap.size, 2, none⟩) (by simp; omega)]; simp
  have d0 : w1.cell? ⟨w.heap.size + 1, 0, none⟩ = some (.int .i64 0) := by rw [hb1.cell (p := ⟨w.heap.size + 1, 0, none⟩) (by simp)]; simp
  have d1 : w1.cell? ⟨w.heap.size + 1, 1, none⟩ = some (.int .i64 0) := by rw [hb1.cell (p := ⟨w.heap.size + 1, 1, none⟩) (by simp)]; simp
  have d2 : w1.cell? ⟨w.heap.size + 1, 2, none⟩ = some (.string ⟨#[]⟩) := by rw [hb1.cell (p := ⟨w.heap.size + 1, 2, none⟩) (by simp)]; simp
  have g0 : w1.frozen? ⟨w.heap.size + 1, 0, none⟩ = false := by rw [hb1.frozen (p := ⟨w.heap.size + 1, 0, none⟩) (by simp)]; simp
  have g1 : w1.frozen? ⟨w.heap.size + 1, 1, none⟩ = false := by rw [hb1.frozen (p := ⟨w.heap.size + 1, 1, none⟩) (by simp)]; simp
  have g2 : w1.frozen? ⟨w.heap.size + 1, 2, none⟩ = false := by rw [hb1.frozen (p := ⟨w.heap.size + 1, 2, none⟩) (by simp)]; simp
  have s2 : w1.setCell ⟨w.heap.size, 2, none⟩ (.string ⟨p.toArray⟩) = w1 := nset_same c2
  clear hb1 C
  go_wp2_with fail
  refine bodyPost_ret (v := .agg #[.int .i64 s, .int .i64 k, .string ⟨p.toArray⟩]) (by simp [results, Tryz.results73, go_sem, d0, d1, d2]) rfl ⟨rfl, ?_⟩
  exact ((hB.setCell (by simp) _).setCell (by simp) _).setCell (by simp) _

theorem one_newW (w : World) (x : Wa) : OneR (w.alloc (.cells #[.int .i64 x.s, .int .i64 x.k, .string ⟨x.p.toArray⟩] 72)) w.heap.size x := heap_alloc_new w _
set_option maxRecDepth 10000 in
set_option maxHeartbeats 2000000 in
theorem hcopied_any (v : Value) (ws : List Wa) (w : World) (hv : SeqV w v ws) (hs : Short ws) (hl : ws.length * 32 ≤ 140737488351232) :
    Calls Tryz.prog 39 #[v] w fun e w' => ∃ g, e = .returned (.slice (some ⟨g, 0, none⟩) ws.length (ws.length + 1)) ∧ w.heap.size ≤ g ∧ OwnR w' g (ws.length + 1) ws ∧ Below w.heap.size w w' := by
  have KR : ∀ W, Below w.heap.size w W → ∀ k x, ws[k]? = some x → ∃ b off cap, v = .slice (some ⟨b, off, none⟩) ws.length cap ∧ b < w.heap.size ∧ RowAt W b off (cellsL ws) := fun W hW k x hx => by
    obtain ⟨b, off, cap, e, hb, hr, _, _⟩ := seq_row hv (fun h0 => by obtain ⟨h1, _⟩ := List.getElem?_eq_some_iff.1 hx; rw [h0] at h1; simp at h1)
    exact ⟨b, off, cap, e, hb, hr.kept hW hb⟩
  have HKR := hide KR
  have HS := hide hs
  obtain ⟨va, vc, rfl⟩ := seq_slice hv
  obtain ⟨i0, hi0, hz0, hz1, hz2⟩ := winfo
  clear hv hs KR
  go_enter Tryz.func39, Tryz.ntmps39
  go_wp2_with (at_make; refine wpList_make_own _ rfl _ _ 23 rfl w.heap.size 72 i0 _ 3 Tryz.underlying23 hi0 hz0 hz1 .i64 .i64 _ (ws.length + 1) rfl rfl (by omega) ?m1 ?m2 (Nat.le_refl _) ?_)
  case m1 => rw [hz2]; omega
  case m2 => simp only [maxLen]; omega
  intro w0 ho0 hg0
  have HO : Hid (OwnR w0 w.heap.size (ws.length + 1) (ws.take 0)) := hide (ownr_of (α := Wa) (xs := ws.take 0) ho0 rfl)
  have HB : Hid (Below w.heap.size w w0) := hide (grownO hg0 _ (Nat.le_refl _) (by simp))
  clear ho0 hg0
  go_wp2_with fail
  go_loopg [3, 12] ws.length (fun kx s3 s12 wr => ∃ k : Nat, s12 = .int .i64 k ∧ s3 = .slice (some ⟨w.heap.size, 0, none⟩) k (ws.length + 1) ∧ k ≤ ws.length ∧ ws.length - k ≤ kx ∧ Hid (OwnR wr w.heap.size (ws.length + 1) (ws.take k)) ∧ Hid (Below w.heap.size w wr))
  case atStart => exact ⟨0, rfl, rfl, Nat.zero_le _, Nat.le_refl _, HO, HB⟩
  case round =>
    obtain ⟨k, rfl, rfl, hk, hg, hO, hB⟩ := hrel
    by_cases hlt : k < ws.length
    · obtain ⟨x, hx⟩ : ∃ x, ws[k]? = some x := ⟨_, List.getElem?_eq_getElem hlt⟩
      obtain ⟨b, off, cap, he, hb, q⟩ := unhide HKR wr (unhide hB) k x hx
      simp only [Value.slice.injEq] at he
      obtain ⟨rfl, _, rfl⟩ := he
      have d0 := q.w0 hx
      have d1 := q.w1 hx
      have d2 := q.w2 hx
      have hbw : b < wr.heap.size := Nat.lt_of_lt_of_le hb (unhide hB).size
      have hgl := (unhide hO).lt
      have CX := fun W => wown_any x W (unhide HS x (List.mem_of_getElem? hx))
      unfold waV at CX
      have HT1 := hide (snoc_take hx)
      have hlk : (ws.take k).length = k := by simp; omega
      clear q hx
      go_wp2_with fail
      refine (CX _).mono ?_
      rintro e w1 ⟨rfl, hb1⟩
      have hb2 := nbox_then hb1
      have HO1 := hide (((unhide hO).next hb2).next (allocB w1 (.cells #[.int .i64 x.s, .int .i64 x.k, .string ⟨x.p.toArray⟩] 72)))
      have HB1 := hide (nnext (unhide hB) (nnext hb2 (allocB w1 (.cells #[.int .i64 x.s, .int .i64 x.k, .string ⟨x.p.toArray⟩] 72))))
      clear CX hb1 hb2
      go_wp2_with (at_builtin; refine wpList_append_fits _ rfl _ _ 23 rfl w.heap.size 72 i0 3 Tryz.underlying23 hi0 hz1 w.heap.size k (ws.length + 1) (cellsL (ws.take k)) rfl ?a1 ⟨w1.heap.size, 0, none⟩ 1 1 (wcells x) rfl rfl ?a2 (Lay.one x) (by omega) ?_)
      case a1 =>
        have := ownr_owns (unhide HO1) w.heap.size (Nat.le_refl _)
        rw [hlk] at this
        exact this
      case a2 => exact one_news (one_newW w1 x)
      intro w2 ho2 hg2
      have HO2 : Hid (OwnR w2 w.heap.size (ws.length + 1) (ws.take (k + 1))) := hide (by
        rw [unhide HT1]
        refine ownr_of (α := Wa) (B := w.heap.size) (n := k + 1) ?_ (by simp; omega)
        rw [cellsL_snoc]
        exact ho2)
      have HB2 : Hid (Below w.heap.size w w2) := hide ((unhide HB1).grown hg2 (unhide HB1).size (by intro k hk; cases hk; exact Nat.le_refl _))
      clear ho2 hg2
      go_wp2_with fail
      go_roundg (ws.length - (k + 1))
      case measure => omega
      case rel => exact ⟨k + 1, rfl, rfl, by omega, Nat.le_refl _, HO2, HB2⟩
    · obtain rfl : k = ws.length := by omega
      rw [List.take_length] at hO
      go_wp2_with fail
      go_ret
      exact ⟨_, rfl, Nat.le_refl _, unhide hO, unhide hB⟩

end Go.Proofs.YtoacignhobchbaaGreatDoor

namespace Go.Proofs.YtoacignhobchbaaGreatDoor
open Go.RowKit

theorem hret_bool {a b : Bool} (h : a = b) : Ending.returned (.bool a) = .returned (.bool b) := by rw [h]

set_option maxRecDepth 10000 in
set_option maxHeartbeats 2000000 in
theorem setOff_any (x : Wa) (e : Ev) (w : World) :
    Calls Tryz.prog 41 #[waV x, evV e] w fun r w' => r = .returned (.bool (offB x e)) ∧ Below w.heap.size w w' := by
  obtain ⟨s, k, p⟩ := x
  obtain ⟨ek, ep⟩ := e
  have HB := hide (nnext (allocB w (.cells #[.int .i64 s, .int .i64 k, .string ⟨p.toArray⟩] 72)) (allocB _ (.cells #[.int .i64 ek, .string ⟨ep.toArray⟩] 97)))
  have HO := hide (show ∀ r : Bool, r = (decide (p = ep) && (if k = 2 then decide (ek = 4) || decide (ek = 2) else decide (ek = 1) || decide (ek = 2) || decide (ek = 3))) → r = offB ⟨s, k, p⟩ ⟨ek, ep⟩ from fun r h => h)
  unfold waV evV
  simp only
  by_cases hp : p = ep
  · have hpb : (p == ep) = true := by simpa using hp
    have HP := hide hp
    clear hp
    by_cases hk : k = 2
    · subst hk
      by_cases h4 : ek = 4
      · subst h4
        go_enter Tryz.func41, Tryz.ntmps41
        go_wp2_with fail
        go_ret
        exact ⟨hret_bool (unhide HO _ (by simp [unhide HP])), unhide HB⟩
      · go_enter Tryz.func41, Tryz.ntmps41
        go_wp2_with fail
        go_ret
        exact ⟨hret_bool (unhide HO _ (by by_cases h : ek = 2 <;> simp [unhide HP, h, h4])), unhide HB⟩
    · by_cases h1 : ek = 1
      · subst h1
        go_enter Tryz.func41, Tryz.ntmps41
        go_wp2_with fail
        go_ret
        exact ⟨hret_bool (unhide HO _ (by simp [unhide HP, hk])), unhide HB⟩
      · by_cases h2 : ek = 2
        · subst h2
          go_enter Tryz.func41, Tryz.ntmps41
          go_wp2_with fail
          go_ret
          exact ⟨hret_bool (unhide HO _ (by simp [unhide HP, hk])), unhide HB⟩
        · go_enter Tryz.func41, Tryz.ntmps41
          go_wp2_with fail
          go_ret
          exact ⟨hret_bool (unhide HO _ (by by_cases h : ek = 3 <;> simp [unhide HP, hk, h, h1, h2])), unhide HB⟩
  · have hpb : (p == ep) = false := by simpa using hp
    go_enter Tryz.func41, Tryz.ntmps41
    go_wp2_with fail
    go_ret
    exact ⟨hret_bool (unhide HO _ (by simp [hp])), unhide HB⟩

set_option maxRecDepth 10000 in
set_option maxHeartbeats 1000000 in
theorem fire1_any (x : Wa) (e : Ev) (B : Nat) (w : World) (h : OneR w B e) :
    Calls Tryz.prog 40 #[waV x, .pointer (some ⟨B, 0, none⟩)] w fun r w' => r = .returned (.bool (offB x e)) ∧ Below w.heap.size w w' := by
  have C := fun W => setOff_any x e W
  have hB : B < w.heap.size := (Array.getElem?_eq_some_iff.1 h).1
  have c0 : w.cell? ⟨B, 0, none⟩ = some (.int .i64 e.k) := by simpa using h.row 0 _ rfl
  have c1 : w.cell? ⟨B, 1, none⟩ = some (.string ⟨e.p.toArray⟩) := by simpa using h.row 1 _ rfl
  clear h
  unfold waV evV at C
  unfold waV
  generalize offB x e = r at C ⊢
  have hne : B ≠ w.heap.size := by omega
  go_enter Tryz.func40, Tryz.ntmps40
  go_wp2_with fail
  refine (C _).mono ?_
  rintro e w1 ⟨rfl, hb1⟩
  have hB1 := nbox_then hb1
  clear C hb1
  go_wp2_with fail
  go_ret
  exact ⟨rfl, hB1⟩

set_option maxRecDepth 10000 in
set_option maxHeartbeats 1000000 in
theorem drop1_any (x : Wa) (s : Int) (B : Nat) (w : World) (h : w.cell? ⟨B, 0, none⟩ = some (.int .i64 s)) (hB : B < w.heap.size) :
    Calls Tryz.prog 44 #[waV x, .pointer (some ⟨B, 0, none⟩)] w fun r w' => r = .returned (.bool (decide (x.s = s))) ∧ Below w.heap.size w w' := by
  obtain ⟨xs, xk, xp⟩ := x
  unfold waV
  have hne : B ≠ w.heap.size := by omega
  go_enter Tryz.func44, Tryz.ntmps44
  go_wp2_with fail
  go_ret
  exact ⟨rfl, allocB _ _⟩

end Go.Proofs.YtoacignhobchbaaGreatDoor

namespace Go.Proofs.YtoacignhobchbaaGreatDoor
open Go.RowKit

def zerosW (m : Nat) : List Value := (Builtin.zeroCells (Value.agg #[.int .i64 0, .int .i64 0, .string ⟨#[]⟩]).cells m).toList
theorem zerosW_length (m : Nat) : (zerosW m).length = m * 3 := by
  rw [zerosW, Array.length_toList, size_zeroCells]; rfl
theorem zerosW_one (m : Nat) : ∀ u ∈ zerosW m, u.oneCell' = true := by
  intro u hu
  simp only [zerosW, Builtin.zeroCells, Value.cells, Array.toList_map, List.mem_map] at hu
  obtain ⟨i, _, rfl⟩ := hu
  have : i % 3 < 3 := Nat.mod_lt _ (by decide)
  show (#[Value.int .i64 0, .int .i64 0, .string ⟨#[]⟩][i % 3]!).oneCell' = true
  rcases (show i % 3 = 0 ∨ i % 3 = 1 ∨ i % 3 = 2 by omega) with e | e | e <;> rw [e] <;> rfl
theorem run_clearW (w : World) (ty : TypeId) (b o m c : Nat) (hm : 0 < m) (hc : ∀ j, j < m * 3 → (w.cell? ⟨b, o + j, none⟩).isSome = true) (hf : ∀ j, j < m * 3 → w.frozen? ⟨b, o + j, none⟩ = false) :
    (Builtin.clear_ #[23] ty #[.slice (some ⟨b, o, none⟩) m c]).run Tryz.prog w = .ok (.tuple #[]) (w.setCells b o (zerosW m)) := by
  have hst := run_storeCells_cells (P := Tryz.prog) b o (zerosW m) 0 w (by rw [zerosW_length]; simpa using hc) (by rw [zerosW_length]; simpa using hf) (zerosW_one m)
  simp only [Nat.add_zero] at hst
  obtain ⟨k, rfl⟩ : ∃ k, m = k + 1 := ⟨m - 1, by omega⟩
  simp [Builtin.clear_, run_underlying Tryz.underlying23]
  exact (by
    have := hst
    unfold zerosW at this ⊢
    rw [this]
    rfl)

/-- a closure over block B that answers pr in every world of I -/
structure Clos (g : FuncId) (B : Nat) (q : Nat) (pr : Wa → Bool) (I : World → Prop) : Prop where
  two : g = 40 ∨ g = 44
  keep : ∀ W V, I W → W.grownBy V (some q) → I V
  gives : ∀ W x, I W → Calls Tryz.prog g #[.agg #[.int .i64 x.s, .int .i64 x.k, .string ⟨x.p.toArray⟩], .pointer (some ⟨B, 0, none⟩)] W fun r w' => r = .returned (.bool (pr x)) ∧ Below W.heap.size W w'

set_option maxRecDepth 10000 in
set_option maxHeartbeats 2000000 in
theorem hidx_at {g : FuncId} {B q : Nat} {pr : Wa → Bool} {I : World → Prop} (C : Clos g B q pr I) (b off cap : Nat) (A : List Wa) (x : Wa) (R : List Wa) (w : World) (hi : I w) (hb : b < w.heap.size) (hr : RowAt w b off (cellsL (A ++ x :: R))) (hl : (A ++ x :: R).length ≤ 140737488355328)
    (hA : ∀ a ∈ A, pr a = false) (hx : pr x = true) :
    Calls Tryz.prog 74 #[.slice (some ⟨b, off, none⟩) (A ++ x :: R).length cap, .func (.func g) #[] #[.pointer (some ⟨B, 0, none⟩)]] w fun e w' => e = .returned (.int .i64 A.length) ∧ Below w.heap.size w w' := by
  have HR := hide (fun W (hW : Below w.heap.size w W) => hr.kept hW hb)
  have HC := hide C
  have HI := hide (fun W (hW : Below w.heap.size w W) => C.keep w W hi (hgrown_of hW))
  have HX := hide hx
  have HA := hide hA
  have hAn : A.length < (A ++ x :: R).length := by simp
  obtain ⟨n, hn⟩ : ∃ n, (A ++ x :: R).length = n := ⟨_, rfl⟩
  rw [hn] at hl hAn ⊢
  have HN := hide hn
  have two := C.two
  clear hr C hi hx hA hn
  rcases two with rfl | rfl
  all_goals
    go_enter Tryz.func74, Tryz.ntmps74
    go_wp2_with fail
    go_loopg [8] n (fun kx s8 wr => ∃ k : Nat, s8 = .int .i64 k ∧ k ≤ A.length ∧ n - k ≤ kx ∧ Hid (Below w.heap.size w wr))
    case atStart => exact ⟨0, rfl, Nat.zero_le _, Nat.le_refl _, hide (Below.refl _ _)⟩
    case round =>
      obtain ⟨k, rfl, hk, hg, hB⟩ := hrel
      have hlt : k < n := by omega
      obtain ⟨y, hy⟩ : ∃ y, (A ++ x :: R)[k]? = some y := ⟨_, List.getElem?_eq_getElem (by rw [unhide HN]; exact hlt)⟩
      have qr := unhide HR wr (unhide hB)
      have d0 := qr.w0 hy
      have d1 := qr.w1 hy
      have d2 := qr.w2 hy
      have hbw : b < wr.heap.size := Nat.lt_of_lt_of_le hb (unhide hB).size
      have CX := (unhide HC).gives wr y (unhide HI wr (unhide hB))
      by_cases hka : k < A.length
      · have hp : pr y = false := unhide HA y (by
          rw [List.getElem?_append_left hka] at hy
          exact List.mem_of_getElem? hy)
        rw [hp] at CX
        clear qr hy hp
        go_wp2_with fail
        refine CX.mono ?_
        rintro e w1 ⟨rfl, hb1⟩
        have hB1 := nnext (unhide hB) hb1
        clear CX hb1
        go_wp2_with fail
        go_roundg (n - (k + 1))
        case measure => omega
        case rel => exact ⟨k + 1, rfl, by omega, Nat.le_refl _, hide hB1⟩
      · obtain rfl : k = A.length := by omega
        have hp : pr y = true := by
          have : (A ++ x :: R)[A.length]? = some x := by simp
          rw [this] at hy
          cases hy
          exact unhide HX
        rw [hp] at CX
        clear qr hy hp
        go_wp2_with fail
        refine CX.mono ?_
        rintro e w1 ⟨rfl, hb1⟩
        have hB1 := nnext (unhide hB) hb1
        clear CX hb1
        go_wp2_with fail
        go_ret
        exact ⟨rfl, hB1⟩

set_option maxRecDepth 10000 in
set_option maxHeartbeats 2000000 in
theorem hidx_none {g : FuncId} {B q : Nat} {pr : Wa → Bool} {I : World → Prop} (C : Clos g B q pr I) (v : Value) (A : List Wa) (w : World) (hi : I w) (hv : SeqV w v A) (hl : A.length ≤ 140737488355328) (hA : ∀ a ∈ A, pr a = false) :
    Calls Tryz.prog 74 #[v, .func (.func g) #[] #[.pointer (some ⟨B, 0, none⟩)]] w fun e w' => e = .returned (.int .i64 (-1)) ∧ Below w.heap.size w w' := by
  have KR : ∀ W, Below w.heap.size w W → ∀ k x, A[k]? = some x → ∃ b off cap, v = .slice (some ⟨b, off, none⟩) A.length cap ∧ b < w.heap.size ∧ RowAt W b off (cellsL A) := fun W hW k x hx => by
    obtain ⟨b, off, cap, e, hb, hr, _, _⟩ := seq_row hv (fun h0 => by obtain ⟨h1, _⟩ := List.getElem?_eq_some_iff.1 hx; rw [h0] at h1; simp at h1)
    exact ⟨b, off, cap, e, hb, hr.kept hW hb⟩
  have HKR := hide KR
  have HC := hide C
  have HI := hide (fun W (hW : Below w.heap.size w W) => C.keep w W hi (hgrown_of hW))
  have HA := hide hA
  have two := C.two
  obtain ⟨va, vc, rfl⟩ := seq_slice hv
  clear C hi hA KR hv
  rcases two with rfl | rfl
  all_goals
    go_enter Tryz.func74, Tryz.ntmps74
    go_wp2_with fail
    go_loopg [8] A.length (fun kx s8 wr => ∃ k : Nat, s8 = .int .i64 k ∧ k ≤ A.length ∧ A.length - k ≤ kx ∧ Hid (Below w.heap.size w wr))
    case atStart => exact ⟨0, rfl, Nat.zero_le _, Nat.le_refl _, hide (Below.refl _ _)⟩
    case round =>
      obtain ⟨k, rfl, hk, hg, hB⟩ := hrel
      by_cases hlt : k < A.length
      · obtain ⟨y, hy⟩ : ∃ y, A[k]? = some y := ⟨_, List.getElem?_eq_getElem hlt⟩
        obtain ⟨b, off, cap, he, hb, qr⟩ := unhide HKR wr (unhide hB) k y hy
        simp only [Value.slice.injEq] at he
        obtain ⟨rfl, _, rfl⟩ := he
        have d0 := qr.w0 hy
        have d1 := qr.w1 hy
        have d2 := qr.w2 hy
        have hbw : b < wr.heap.size := Nat.lt_of_lt_of_le hb (unhide hB).size
        have CX := (unhide HC).gives wr y (unhide HI wr (unhide hB))
        have hp : pr y = false := unhide HA y (List.mem_of_getElem? hy)
        rw [hp] at CX
        clear qr hy hp
        go_wp2_with fail
        refine CX.mono ?_
        rintro e w1 ⟨rfl, hb1⟩
        have hB1 := nnext (unhide hB) hb1
        clear CX hb1
        go_wp2_with fail
        go_roundg (A.length - (k + 1))
        case measure => omega
        case rel => exact ⟨k + 1, rfl, by omega, Nat.le_refl _, hide hB1⟩
      · obtain rfl : k = A.length := by omega
        go_wp2_with fail
        go_ret
        exact ⟨rfl, unhide hB⟩

end Go.Proofs.YtoacignhobchbaaGreatDoor
