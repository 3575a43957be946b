/-
  aviaryref's Apply: its boxes; what it refuses at once: the walks.
  aviaryref's Apply: what it makes, ahead of the change: words on memory.
  What the laws that hold Apply against the document's own share: how long its answers are, the law's opened.
  Rows of the call's own, whatever their elements are: their heads, their values.
  What watch.own, copied, setOff and its closures answer: the walks.
  What watch.setOff and the closures of Fire and Drop answer: the walks.
  What slices.IndexFunc answers at watches, with the closures of Fire and Drop: the walks.
  What watch.told answers: the walk.
  What slices.DeleteFunc answers at watches, with the closures of Fire and Drop: the walk.
-/
import Derived.Test.YtoacignhobchbaaGreatDoorSRR
import Derived.Test.YtoacignhobchbaaGreatDoorSRS
import Derived.Test.YtoacignhobchbaaGreatDoorSRK
import Derived.Test.YtoacignhobchbaaGreatDoorSRA
import Derived.Test.YtoacignhobchbaaGreatDoorSRB
import Derived.Lib.ConvBytes
import Derived.Lib.Strings
import Derived.OwnWalk
import Derived.WalkSmall
import Derived.Maps.AppendAt
import Derived.RegionTactic
import Derived.Deep.QuietTactic
import Derived.BigQuiet
import Derived.Laws.EntriesVeiled
import Derived.Test.YtoacignhobchbaaGreatDoorSRO
import Derived.Test.YtoacignhobchbaaGreatDoorSRC
import Derived.Test.YtoacignhobchbaaGreatDoorShelf
import Derived.Deep.RegionHeld3
import Derived.Laws.MakeOwn
import Derived.Lib.SliceRun
import Derived.Lib.AppendZerosOnto
import Derived.Deep.RegionLaw
namespace Go.Proofs.YtoacignhobchbaaGreatDoor
open Go.RowKit
/-- the boxes of the tree, of the transaction, of the answer -/
structure RB (w W : World) (z : Int) (vn vs : Value) (x : WTxn) : Prop where
  t : W.heap[w.heap.size]? = some (.cells #[.int .i64 z, vn, vs] 34 (0, 0))
  x : W.heap[w.heap.size + 1]? = some (.cells #[.int .i64 x.z, .int .i64 x.o, .int .i64 x.s, .string ⟨x.p.toArray⟩, .string ⟨x.d.toArray⟩, .int .i64 x.v, .int .i64 x.w] 53 (0, 0))
  r : W.heap[w.heap.size + 2]? = some (.cells #[.int .i64 0, .slice none 0 0, .slice none 0 0] 34 (0, 0))
  b : Below w.heap.size w W
section
variable {w W V : World} {z : Int} {vn vs : Value} {x : WTxn}
theorem RB.lt (h : RB w W z vn vs x) : w.heap.size + 2 < W.heap.size := (Array.getElem?_eq_some_iff.1 h.r).1
theorem RB.next (h : RB w W z vn vs x) (hb : Below W.heap.size W V) : RB w V z vn vs x :=
  ⟨(hb.block _ (by have := h.lt; omega)).trans h.t, (hb.block _ (by have := h.lt; omega)).trans h.x, (hb.block _ h.lt).trans h.r, nnext h.b hb⟩
theorem RB.xc (h : RB w W z vn vs x) : W.cell? ⟨w.heap.size + 1, 0, none⟩ = some (.int .i64 x.z) ∧ W.cell? ⟨w.heap.size + 1, 1, none⟩ = some (.int .i64 x.o) ∧ W.cell? ⟨w.heap.size + 1, 2, none⟩ = some (.int .i64 x.s) ∧ W.cell? ⟨w.heap.size + 1, 3, none⟩ = some (.string ⟨x.p.toArray⟩) ∧ W.cell? ⟨w.heap.size + 1, 4, none⟩ = some (.string ⟨x.d.toArray⟩) ∧ W.cell? ⟨w.heap.size + 1, 5, none⟩ = some (.int .i64 x.v) ∧ W.cell? ⟨w.heap.size + 1, 6, none⟩ = some (.int .i64 x.w) := by
  have h1 := h.x
  refine ⟨?_, ?_, ?_, ?_, ?_, ?_, ?_⟩ <;> simp [World.cell?, h1]
theorem RB.rc (h : RB w W z vn vs x) : (W.cell? ⟨w.heap.size + 2, 0, none⟩ = some (.int .i64 0) ∧ W.cell? ⟨w.heap.size + 2, 1, none⟩ = some (.slice none 0 0) ∧ W.cell? ⟨w.heap.size + 2, 2, none⟩ = some (.slice none 0 0)) ∧ W.frozen? ⟨w.heap.size + 2, 0, none⟩ = false ∧ W.frozen? ⟨w.heap.size + 2, 1, none⟩ = false ∧ W.frozen? ⟨w.heap.size + 2, 2, none⟩ = false := by
  have h1 := h.r
  refine ⟨⟨?_, ?_, ?_⟩, ?_, ?_, ?_⟩ <;> simp [World.cell?, World.frozen?, h1]
end
theorem RB.new (w : World) (z : Int) (vn vs : Value) (x : WTxn) : RB w (((w.alloc (.cells #[.int .i64 z, vn, vs] 34)).alloc (.cells #[.int .i64 x.z, .int .i64 x.o, .int .i64 x.s, .string ⟨x.p.toArray⟩, .string ⟨x.d.toArray⟩, .int .i64 x.v, .int .i64 x.w] 53)).alloc (.cells #[.int .i64 0, .slice none 0 0, .slice none 0 0] 34)) z vn vs x := by
  have e1 : (w.alloc (.cells #[.int .i64 z, vn, vs] 34)).heap.size = w.heap.size + 1 := by simp
  have e2 : ((w.alloc (.cells #[.int .i64 z, vn, vs] 34)).alloc (.cells #[.int .i64 x.z, .int .i64 x.o, .int .i64 x.s, .string ⟨x.p.toArray⟩, .string ⟨x.d.toArray⟩, .int .i64 x.v, .int .i64 x.w] 53)).heap.size = w.heap.size + 2 := by simp
  refine ⟨?_, ?_, ?_, nnext (nnext (allocB _ _) (allocB _ _)) (allocB _ _)⟩
  · rw [(allocB _ _).block _ (by simp; omega), (allocB _ _).block _ (by simp)]
    exact heap_alloc_new w _
  · rw [(allocB _ _).block _ (by simp)]
    have h := heap_alloc_new (w.alloc (.cells #[.int .i64 z, vn, vs] 34)) (.cells #[.int .i64 x.z, .int .i64 x.o, .int .i64 x.s, .string ⟨x.p.toArray⟩, .string ⟨x.d.toArray⟩, .int .i64 x.v, .int .i64 x.w] 53)
    rw [e1] at h
    exact h
  · have h := heap_alloc_new ((w.alloc (.cells #[.int .i64 z, vn, vs] 34)).alloc (.cells #[.int .i64 x.z, .int .i64 x.o, .int .i64 x.s, .string ⟨x.p.toArray⟩, .string ⟨x.d.toArray⟩, .int .i64 x.v, .int .i64 x.w] 53)) (.cells #[.int .i64 0, .slice none 0 0, .slice none 0 0] 34)
    rw [e2] at h
    exact h

end Go.Proofs.YtoacignhobchbaaGreatDoor

namespace Go.Proofs.YtoacignhobchbaaGreatDoor
open Go.RowKit
/-- blocks that the change may touch -/
def FB (m bp k : Nat) : Prop := m ≤ k ∧ k ≠ bp
/-- the boxes stay -/
theorem RB.touch {w W V : World} {z : Int} {vn vs : Value} {x : WTxn} {m bp : Nat} (h : RB w W z vn vs x) (hm : w.heap.size + 3 ≤ m) (ht : Touch (FB m bp) W V) : RB w V z vn vs x := by
  have hl := h.lt
  have nf : ∀ k, k < m → ¬ FB m bp k := fun k hk hf => by have := hf.1; omega
  refine ⟨(ht.block _ (by omega) (nf _ (by omega))).trans h.t, (ht.block _ (by omega) (nf _ (by omega))).trans h.x, (ht.block _ hl (nf _ (by omega))).trans h.r, h.b.trans (ht.below (by omega) (fun k hf => by have := hf.1; omega))⟩
end Go.Proofs.YtoacignhobchbaaGreatDoor

namespace Go.Proofs.YtoacignhobchbaaGreatDoor
open Go.RowKit

/-- what Apply answers is short -/
theorem app_short (t : Tr) (x : WTxn) : (appT t x).ns.length ≤ 140737488355328 ∧ (appT t x).ss.length ≤ 140737488355328 ∧ (appV t x).length ≤ 140737488355328 := by
  by_cases h : appE t x = 0
  · obtain ⟨g2, _, _⟩ := app_good h
    obtain ⟨ha, _⟩ := app_zero h
    obtain ⟨g, _, _⟩ := adm_zero ha
    have few := g.nod.few
    refine ⟨by have := g2.nod.few; omega, by have := sasc_len g2.ses; omega, ?_⟩
    rw [appV, if_pos h, chgV]
    split
    · rw [rmEv_len]
      have : (ownedP t.ns x.s).length ≤ t.ns.length := by
        rw [ownedP, List.length_map]
        exact List.length_filter_le _ _
      omega
    · split
      · simp
      · split
        · simp
        · split <;> simp
  · rw [appT, if_neg h, appV, if_neg h]
    exact ⟨by decide, by decide, by decide⟩

end Go.Proofs.YtoacignhobchbaaGreatDoor

namespace Go.Proofs.YtoacignhobchbaaGreatDoor
open Go.RowKit

theorem ownr_owns {α : Type} [Lay α] {W : World} {g cap : Nat} {xs : List α} (h : OwnR W g cap xs) (B : Nat) (hB : B ≤ g) : W.ownsRow B (Lay.ty α) (Lay.k α) (.slice (some ⟨g, 0, none⟩) xs.length cap) xs.length (cellsL xs) :=
  OwnS.row (.inr ⟨g, cap, rfl, hB, h⟩)
theorem ownr_of {α : Type} [Lay α] {W : World} {B g cap n : Nat} {xs : List α} (h : W.ownsRow B (Lay.ty α) (Lay.k α) (.slice (some ⟨g, 0, none⟩) n cap) n (cellsL xs)) (hn : n = xs.length) : OwnR W g cap xs := by
  subst hn
  rcases OwnS.of_row h with ⟨h1, _⟩ | ⟨g', cap', h1, _, h2⟩
  · simp at h1
  · simp only [Value.slice.injEq, Option.some.injEq, Addr.mk.injEq, and_true, true_and] at h1
    obtain ⟨rfl, rfl⟩ := h1
    exact h2
theorem snoc_take {α : Type} {xs : List α} {k : Nat} {x : α} (h : xs[k]? = some x) : xs.take (k + 1) = xs.take k ++ [x] := by rw [List.take_add_one, h]; rfl
theorem grownO {w w' : World} {r : Option Nat} (h : w.grownBy w' r) (B : Nat) (hB : B ≤ w.heap.size) (hr : ∀ k, r = some k → B ≤ k) : Below B w w' := (Below.refl _ _).grown h hB hr
theorem hgrown_of {w w' : World} {r : Option Nat} (h : Below w.heap.size w w') : w.grownBy w' r := ⟨h.os, h.tape, h.output, h.size, fun k hk _ => h.block k hk⟩
theorem OwnR.head {α : Type} [Lay α] {W : World} {g cap : Nat} {A B : List α} (h : OwnR W g cap (A ++ B)) : OwnR W g cap A := by
  obtain ⟨rest, h1, h2, h4, h3⟩ := h
  refine ⟨cellsL B ++ rest, by rw [h1, cellsL_append, List.append_assoc], ?_, ?_, h3⟩
  · rw [List.length_append, cellsL_length B]
    rw [List.length_append, Nat.add_mul] at h2
    omega
  · rw [List.length_append] at h4; omega
end Go.Proofs.YtoacignhobchbaaGreatDoor

namespace Go.Proofs.YtoacignhobchbaaGreatDoor
open Go.RowKit
set_option maxRecDepth 10000 in

set_option maxHeartbeats 400000 in
theorem hclone_any (s : List UInt8) (w : World) (hs : s.length ≤ 281474976710656) :
    Calls Tryz.prog 69 #[.string ⟨s.toArray⟩] w fun e w' => e = .returned (.string ⟨s.toArray⟩) ∧ Below w.heap.size w w' := by
  have C := fun W => Tryz.stringslite_Clone ⟨s.toArray⟩ W (show (ByteArray.mk s.toArray).size ≤ _ from hs)
  go_enter Tryz.func69, Tryz.ntmps69
  go_wp2_with fail
  refine (C _).mono ?_
  rintro e w1 ⟨rfl, hb1⟩
  go_wp2_with fail
  go_ret
  exact ⟨rfl, hb1⟩

set_option maxRecDepth 10000 in
set_option maxHeartbeats 1000000 in
theorem wown_any (x : Wa) (w : World) (hx : x.p.length ≤ 140737488355328) :
    Calls Tryz.prog 73 #[waV x] w fun e w' => e = .returned (waV x) ∧ Below w.heap.size w w' := by
  obtain ⟨s, k, p⟩ := x
  unfold waV
  have C := fun W => hclone_any p W (by simp only at hx; omega)
  go_enter Tryz.func73, Tryz.ntmps73
  go_wp2_with fail
  refine (C _).mono ?_
  rintro e w1 ⟨rfl, hb1⟩
  have hB := nbox_then (nbox_then hb1)
  have c0 : w1.cell? ⟨w.heap.size, 0, none⟩ = some (.int .i64 s) := by rw [hb1.cell (p := ⟨w.heap.size, 0, none⟩) (by simp; omega)]; simp
  have c1 : w1.cell? ⟨w.heap.size, 1, none⟩ = some (.int .i64 k) := by rw [hb1.cell (p := ⟨w.heap.size, 1, none⟩) (by simp; omega)]; simp
  have c2 : w1.cell? ⟨w.heap.size, 2, none⟩ = some (.string ⟨p.toArray⟩) := by rw [hb1.cell (p := ⟨w.heap.size, 2, none⟩) (by simp; omega)]; simp
  have f2 : w1.frozen? ⟨w.heap.size, 2, none⟩ = false := by rw [hb1.frozen (p := ⟨w.heap.size, 2, none⟩) (by simp; omega)]; simp
  have d0 : w1.cell? ⟨w.heap.size + 1, 0, none⟩ = some (.int .i64 0) := by rw [hb1.cell (p := ⟨w.heap.size + 1, 0, none⟩) (by simp)]; simp
  have d1 : w1.cell? ⟨w.heap.size + 1, 1, none⟩ = some (.int .i64 0) := by rw [hb1.cell (p := ⟨w.heap.size + 1, 1, none⟩) (by simp)]; simp
  have d2 : w1.cell? ⟨w.heap.size + 1, 2, none⟩ = some (.string ⟨#[]⟩) := by rw [hb1.cell (p := ⟨w.heap.size + 1, 2, none⟩) (by simp)]; simp
  have g0 : w1.frozen? ⟨w.heap.size + 1, 0, none⟩ = false := by rw [hb1.frozen (p := ⟨w.heap.size + 1, 0, none⟩) (by simp)]; simp
  have g1 : w1.frozen? ⟨w.heap.size + 1, 1, none⟩ = false := by rw [hb1.frozen (p := ⟨w.heap.size + 1, 1, none⟩) (by simp)]; simp
  have g2 : w1.frozen? ⟨w.heap.size + 1, 2, none⟩ = false := by rw [hb1.frozen (p := ⟨w.heap.size + 1, 2, none⟩) (by simp)]; simp
  have s2 : w1.setCell ⟨w.heap.size, 2, none⟩ (.string ⟨p.toArray⟩) = w1 := nset_same c2
  clear hb1 C
  go_wp2_with fail
  refine bodyPost_ret (v := .agg #[.int .i64 s, .int .i64 k, .string ⟨p.toArray⟩]) (by simp [results, Tryz.results73, go_sem, d0, d1, d2]) rfl ⟨rfl, ?_⟩
  exact ((hB.setCell (by simp) _).setCell (by simp) _).setCell (by simp) _

theorem one_newW (w : World) (x : Wa) : OneR (w.alloc (.cells #[.int .i64 x.s, .int .i64 x.k, .string ⟨x.p.toArray⟩] 72)) w.heap.size x := heap_alloc_new w _
set_option maxRecDepth 10000 in
set_option maxHeartbeats 2000000 in
theorem hcopied_any (v : Value) (ws : List Wa) (w : World) (hv : SeqV w v ws) (hs : Short ws) (hl : ws.length * 32 ≤ 140737488351232) :
    Calls Tryz.prog 39 #[v] w fun e w' => ∃ g, e = .returned (.slice (some ⟨g, 0, none⟩) ws.length (ws.length + 1)) ∧ w.heap.size ≤ g ∧ OwnR w' g (ws.length + 1) ws ∧ Below w.heap.size w w' := by
  have KR : ∀ W, Below w.heap.size w W → ∀ k x, ws[k]? = some x → ∃ b off cap, v = .slice (some ⟨b, off, none⟩) ws.length cap ∧ b < w.heap.size ∧ RowAt W b off (cellsL ws) := fun W hW k x hx => by
    obtain ⟨b, off, cap, e, hb, hr, _, _⟩ := seq_row hv (fun h0 => by obtain ⟨h1, _⟩ := List.getElem?_eq_some_iff.1 hx; rw [h0] at h1; simp at h1)
    exact ⟨b, off, cap, e, hb, hr.kept hW hb⟩
  have HKR := hide KR
  have HS := hide hs
  obtain ⟨va, vc, rfl⟩ := seq_slice hv
  obtain ⟨i0, hi0, hz0, hz1, hz2⟩ := winfo
  clear hv hs KR
  go_enter Tryz.func39, Tryz.ntmps39
  go_wp2_with (at_make; refine wpList_make_own _ rfl _ _ 23 rfl w.heap.size 72 i0 _ 3 Tryz.underlying23 hi0 hz0 hz1 .i64 .i64 _ (ws.length + 1) rfl rfl (by omega) ?m1 ?m2 (Nat.le_refl _) ?_)
  case m1 => rw [hz2]; omega
  case m2 => simp only [maxLen]; omega
  intro w0 ho0 hg0
  have HO : Hid (OwnR w0 w.heap.size (ws.length + 1) (ws.take 0)) := hide (ownr_of (α := Wa) (xs := ws.take 0) ho0 rfl)
  have HB : Hid (Below w.heap.size w w0) := hide (grownO hg0 _ (Nat.le_refl _) (by simp))
  clear ho0 hg0
  go_wp2_with fail
  go_loopg [3, 12] ws.length (fun kx s3 s12 wr => ∃ k : Nat, s12 = .int .i64 k ∧ s3 = .slice (some ⟨w.heap.size, 0, none⟩) k (ws.length + 1) ∧ k ≤ ws.length ∧ ws.length - k ≤ kx ∧ Hid (OwnR wr w.heap.size (ws.length + 1) (ws.take k)) ∧ Hid (Below w.heap.size w wr))
  case atStart => exact ⟨0, rfl, rfl, Nat.zero_le _, Nat.le_refl _, HO, HB⟩
  case round =>
    obtain ⟨k, rfl, rfl, hk, hg, hO, hB⟩ := hrel
    by_cases hlt : k < ws.length
    · obtain ⟨x, hx⟩ : ∃ x, ws[k]? = some x := ⟨_, List.getElem?_eq_getElem hlt⟩
      obtain ⟨b, off, cap, he, hb, q⟩ := unhide HKR wr (unhide hB) k x hx
      simp only [Value.slice.injEq] at he
      obtain ⟨rfl, _, rfl⟩ := he
      have d0 := q.w0 hx
      have d1 := q.w1 hx
      have d2 := q.w2 hx
      have hbw : b < wr.heap.size := Nat.lt_of_lt_of_le hb (unhide hB).size
      have hgl := (unhide hO).lt
      have CX := fun W => wown_any x W (unhide HS x (List.mem_of_getElem? hx))
      unfold waV at CX
      have HT1 := hide (snoc_take hx)
      have hlk : (ws.take k).length = k := by simp; omega
      clear q hx
      go_wp2_with fail
      refine (CX _).mono ?_
      rintro e w1 ⟨rfl, hb1⟩
      have hb2 := nbox_then hb1
      have HO1 := hide (((unhide hO).next hb2).next (allocB w1 (.cells #[.int .i64 x.s, .int .i64 x.k, .string ⟨x.p.toArray⟩] 72)))
      have HB1 := hide (nnext (unhide hB) (nnext hb2 (allocB w1 (.cells #[.int .i64 x.s, .int .i64 x.k, .string ⟨x.p.toArray⟩] 72))))
      clear CX hb1 hb2
      go_wp2_with (at_builtin; refine wpList_append_fits _ rfl _ _ 23 rfl w.heap.size 72 i0 3 Tryz.underlying23 hi0 hz1 w.heap.size k (ws.length + 1) (cellsL (ws.take k)) rfl ?a1 ⟨w1.heap.size, 0, none⟩ 1 1 (wcells x) rfl rfl ?a2 (Lay.one x) (by omega) ?_)
      case a1 =>
        have := ownr_owns (unhide HO1) w.heap.size (Nat.le_refl _)
        rw [hlk] at this
        exact this
      case a2 => exact one_news (one_newW w1 x)
      intro w2 ho2 hg2
      have HO2 : Hid (OwnR w2 w.heap.size (ws.length + 1) (ws.take (k + 1))) := hide (by
        rw [unhide HT1]
        refine ownr_of (α := Wa) (B := w.heap.size) (n := k + 1) ?_ (by simp; omega)
        rw [cellsL_snoc]
        exact ho2)
      have HB2 : Hid (Below w.heap.size w w2) := hide ((unhide HB1).grown hg2 (unhide HB1).size (by intro k hk; cases hk; exact Nat.le_refl _))
      clear ho2 hg2
      go_wp2_with fail
      go_roundg (ws.length - (k + 1))
      case measure => omega
      case rel => exact ⟨k + 1, rfl, rfl, by omega, Nat.le_refl _, HO2, HB2⟩
    · obtain rfl : k = ws.length := by omega
      rw [List.take_length] at hO
      go_wp2_with fail
      go_ret
      exact ⟨_, rfl, Nat.le_refl _, unhide hO, unhide hB⟩

end Go.Proofs.YtoacignhobchbaaGreatDoor

namespace Go.Proofs.YtoacignhobchbaaGreatDoor
open Go.RowKit

theorem hret_bool {a b : Bool} (h : a = b) : Ending.returned (.bool a) = .returned (.bool b) := by rw [h]

set_option maxRecDepth 10000 in
set_option maxHeartbeats 2000000 in
theorem setOff_any (x : Wa) (e : Ev) (w : World) :
    Calls Tryz.prog 41 #[waV x, evV e] w fun r w' => r = .returned (.bool (offB x e)) ∧ Below w.heap.size w w' := by
  obtain ⟨s, k, p⟩ := x
  obtain ⟨ek, ep⟩ := e
  have HB := hide (nnext (allocB w (.cells #[.int .i64 s, .int .i64 k, .string ⟨p.toArray⟩] 72)) (allocB _ (.cells #[.int .i64 ek, .string ⟨ep.toArray⟩] 97)))
  have HO := hide (show ∀ r : Bool, r = (decide (p = ep) && (if k = 2 then decide (ek = 4) || decide (ek = 2) else decide (ek = 1) || decide (ek = 2) || decide (ek = 3))) → r = offB ⟨s, k, p⟩ ⟨ek, ep⟩ from fun r h => h)
  unfold waV evV
  simp only
  by_cases hp : p = ep
  · have hpb : (p == ep) = true := by simpa using hp
    have HP := hide hp
    clear hp
    by_cases hk : k = 2
    · subst hk
      by_cases h4 : ek = 4
      · subst h4
        go_enter Tryz.func41, Tryz.ntmps41
        go_wp2_with fail
        go_ret
        exact ⟨hret_bool (unhide HO _ (by simp [unhide HP])), unhide HB⟩
      · go_enter Tryz.func41, Tryz.ntmps41
        go_wp2_with fail
        go_ret
        exact ⟨hret_bool (unhide HO _ (by by_cases h : ek = 2 <;> simp [unhide HP, h, h4])), unhide HB⟩
    · by_cases h1 : ek = 1
      · subst h1
        go_enter Tryz.func41, Tryz.ntmps41
        go_wp2_with fail
        go_ret
        exact ⟨hret_bool (unhide HO _ (by simp [unhide HP, hk])), unhide HB⟩
      · by_cases h2 : ek = 2
        · subst h2
          go_enter Tryz.func41, Tryz.ntmps41
          go_wp2_with fail
          go_ret
          exact ⟨hret_bool (unhide HO _ (by simp [unhide HP, hk])), unhide HB⟩
        · go_enter Tryz.func41, Tryz.ntmps41
          go_wp2_with fail
          go_ret
          exact ⟨hret_bool (unhide HO _ (by by_cases h : ek = 3 <;> simp [unhide HP, hk, h, h1, h2])), unhide HB⟩
  · have hpb : (p == ep) = false := by simpa using hp
    go_enter Tryz.func41, Tryz.ntmps41
    go_wp2_with fail
    go_ret
    exact ⟨hret_bool (unhide HO _ (by simp [hp])), unhide HB⟩

set_option maxRecDepth 10000 in
set_option maxHeartbeats 1000000 in
theorem fire1_any (x : Wa) (e : Ev) (B : Nat) (w : World) (h : OneR w B e) :
    Calls Tryz.prog 40 #[waV x, .pointer (some ⟨B, 0, none⟩)] w fun r w' => r = .returned (.bool (offB x e)) ∧ Below w.heap.size w w' := by
  have C := fun W => setOff_any x e W
  have hB : B < w.heap.size := (Array.getElem?_eq_some_iff.1 h).1
  have c0 : w.cell? ⟨B, 0, none⟩ = some (.int .i64 e.k) := by simpa using h.row 0 _ rfl
  have c1 : w.cell? ⟨B, 1, none⟩ = some (.string ⟨e.p.toArray⟩) := by simpa using h.row 1 _ rfl
  clear h
  unfold waV evV at C
  unfold waV
  generalize offB x e = r at C ⊢
  have hne : B ≠ w.heap.size := by omega
  go_enter Tryz.func40, Tryz.ntmps40
  go_wp2_with fail
  refine (C _).mono ?_
  rintro e w1 ⟨rfl, hb1⟩
  have hB1 := nbox_then hb1
  clear C hb1
  go_wp2_with fail
  go_ret
  exact ⟨rfl, hB1⟩

set_option maxRecDepth 10000 in
set_option maxHeartbeats 1000000 in
theorem drop1_any (x : Wa) (s : Int) (B : Nat) (w : World) (h : w.cell? ⟨B, 0, none⟩ = some (.int .i64 s)) (hB : B < w.heap.size) :
    Calls Tryz.prog 44 #[waV x, .pointer (some ⟨B, 0, none⟩)] w fun r w' => r = .returned (.bool (decide (x.s = s))) ∧ Below w.heap.size w w' := by
  obtain ⟨xs, xk, xp⟩ := x
  unfold waV
  have hne : B ≠ w.heap.size := by omega
  go_enter Tryz.func44, Tryz.ntmps44
  go_wp2_with fail
  go_ret
  exact ⟨rfl, allocB _ _⟩

end Go.Proofs.YtoacignhobchbaaGreatDoor

namespace Go.Proofs.YtoacignhobchbaaGreatDoor
open Go.RowKit

def zerosW (m : Nat) : List Value := (Builtin.zeroCells (Value.agg #[.int .i64 0, .int .i64 0, .string ⟨#[]⟩]).cells m).toList
theorem zerosW_length (m : Nat) : (zerosW m).length = m * 3 := by
  rw [zerosW, Array.length_toList, size_zeroCells]; rfl
theorem zerosW_one (m : Nat) : ∀ u ∈ zerosW m, u.oneCell' = true := by
  intro u hu
  simp only [zerosW, Builtin.zeroCells, Value.cells, Array.toList_map, List.mem_map] at hu
  obtain ⟨i, _, rfl⟩ := hu
  have : i % 3 < 3 := Nat.mod_lt _ (by decide)
  show (#[Value.int .i64 0, .int .i64 0, .string ⟨#[]⟩][i % 3]!).oneCell' = true
  rcases (show i % 3 = 0 ∨ i % 3 = 1 ∨ i % 3 = 2 by omega) with e | e | e <;> rw [e] <;> rfl
theorem run_clearW (w : World) (ty : TypeId) (b o m c : Nat) (hm : 0 < m) (hc : ∀ j, j < m * 3 → (w.cell? ⟨b, o + j, none⟩).isSome = true) (hf : ∀ j, j < m * 3 → w.frozen? ⟨b, o + j, none⟩ = false) :
    (Builtin.clear_ #[23] ty #[.slice (some ⟨b, o, none⟩) m c]).run Tryz.prog w = .ok (.tuple #[]) (w.setCells b o (zerosW m)) := by
  have hst := run_storeCells_cells (P := Tryz.prog) b o (zerosW m) 0 w (by rw [zerosW_length]; simpa using hc) (by rw [zerosW_length]; simpa using hf) (zerosW_one m)
  simp only [Nat.add_zero] at hst
  obtain ⟨k, rfl⟩ : ∃ k, m = k + 1 := ⟨m - 1, by omega⟩
  simp [Builtin.clear_, run_underlying Tryz.underlying23]
  exact (by
    have := hst
    unfold zerosW at this ⊢
    rw [this]
    rfl)

/-- a closure over block B that answers pr in every world of I -/
structure Clos (g : FuncId) (B : Nat) (q : Nat) (pr : Wa → Bool) (I : World → Prop) : Prop where
  two : g = 40 ∨ g = 44
  keep : ∀ W V, I W → W.grownBy V (some q) → I V
  gives : ∀ W x, I W → Calls Tryz.prog g #[.agg #[.int .i64 x.s, .int .i64 x.k, .string ⟨x.p.toArray⟩], .pointer (some ⟨B, 0, none⟩)] W fun r w' => r = .returned (.bool (pr x)) ∧ Below W.heap.size W w'

set_option maxRecDepth 10000 in
set_option maxHeartbeats 2000000 in
theorem hidx_at {g : FuncId} {B q : Nat} {pr : Wa → Bool} {I : World → Prop} (C : Clos g B q pr I) (b off cap : Nat) (A : List Wa) (x : Wa) (R : List Wa) (w : World) (hi : I w) (hb : b < w.heap.size) (hr : RowAt w b off (cellsL (A ++ x :: R))) (hl : (A ++ x :: R).length ≤ 140737488355328)
    (hA : ∀ a ∈ A, pr a = false) (hx : pr x = true) :
    Calls Tryz.prog 74 #[.slice (some ⟨b, off, none⟩) (A ++ x :: R).length cap, .func (.func g) #[] #[.pointer (some ⟨B, 0, none⟩)]] w fun e w' => e = .returned (.int .i64 A.length) ∧ Below w.heap.size w w' := by
  have HR := hide (fun W (hW : Below w.heap.size w W) => hr.kept hW hb)
  have HC := hide C
  have HI := hide (fun W (hW : Below w.heap.size w W) => C.keep w W hi (hgrown_of hW))
  have HX := hide hx
  have HA := hide hA
  have hAn : A.length < (A ++ x :: R).length := by simp
  obtain ⟨n, hn⟩ : ∃ n, (A ++ x :: R).length = n := ⟨_, rfl⟩
  rw [hn] at hl hAn ⊢
  have HN := hide hn
  have two := C.two
  clear hr C hi hx hA hn
  rcases two with rfl | rfl
  all_goals
    go_enter Tryz.func74, Tryz.ntmps74
    go_wp2_with fail
    go_loopg [8] n (fun kx s8 wr => ∃ k : Nat, s8 = .int .i64 k ∧ k ≤ A.length ∧ n - k ≤ kx ∧ Hid (Below w.heap.size w wr))
    case atStart => exact ⟨0, rfl, Nat.zero_le _, Nat.le_refl _, hide (Below.refl _ _)⟩
    case round =>
      obtain ⟨k, rfl, hk, hg, hB⟩ := hrel
      have hlt : k < n := by omega
      obtain ⟨y, hy⟩ : ∃ y, (A ++ x :: R)[k]? = some y := ⟨_, List.getElem?_eq_getElem (by rw [unhide HN]; exact hlt)⟩
      have qr := unhide HR wr (unhide hB)
      have d0 := qr.w0 hy
      have d1 := qr.w1 hy
      have d2 := qr.w2 hy
      have hbw : b < wr.heap.size := Nat.lt_of_lt_of_le hb (unhide hB).size
      have CX := (unhide HC).gives wr y (unhide HI wr (unhide hB))
      by_cases hka : k < A.length
      · have hp : pr y = false := unhide HA y (by
          rw [List.getElem?_append_left hka] at hy
          exact List.mem_of_getElem? hy)
        rw [hp] at CX
        clear qr hy hp
        go_wp2_with fail
        refine CX.mono ?_
        rintro e w1 ⟨rfl, hb1⟩
        have hB1 := nnext (unhide hB) hb1
        clear CX hb1
        go_wp2_with fail
        go_roundg (n - (k + 1))
        case measure => omega
        case rel => exact ⟨k + 1, rfl, by omega, Nat.le_refl _, hide hB1⟩
      · obtain rfl : k = A.length := by omega
        have hp : pr y = true := by
          have : (A ++ x :: R)[A.length]? = some x := by simp
          rw [this] at hy
          cases hy
          exact unhide HX
        rw [hp] at CX
        clear qr hy hp
        go_wp2_with fail
        refine CX.mono ?_
        rintro e w1 ⟨rfl, hb1⟩
        have hB1 := nnext (unhide hB) hb1
        clear CX hb1
        go_wp2_with fail
        go_ret
        exact ⟨rfl, hB1⟩

set_option maxRecDepth 10000 in
set_option maxHeartbeats 2000000 in
theorem hidx_none {g : FuncId} {B q : Nat} {pr : Wa → Bool} {I : World → Prop} (C : Clos g B q pr I) (v : Value) (A : List Wa) (w : World) (hi : I w) (hv : SeqV w v A) (hl : A.length ≤ 140737488355328) (hA : ∀ a ∈ A, pr a = false) :
    Calls Tryz.prog 74 #[v, .func (.func g) #[] #[.pointer (some ⟨B, 0, none⟩)]] w fun e w' => e = .returned (.int .i64 (-1)) ∧ Below w.heap.size w w' := by
  have KR : ∀ W, Below w.heap.size w W → ∀ k x, A[k]? = some x → ∃ b off cap, v = .slice (some ⟨b, off, none⟩) A.length cap ∧ b < w.heap.size ∧ RowAt W b off (cellsL A) := fun W hW k x hx => by
    obtain ⟨b, off, cap, e, hb, hr, _, _⟩ := seq_row hv (fun h0 => by obtain ⟨h1, _⟩ := List.getElem?_eq_some_iff.1 hx; rw [h0] at h1; simp at h1)
    exact ⟨b, off, cap, e, hb, hr.kept hW hb⟩
  have HKR := hide KR
  have HC := hide C
  have HI := hide (fun W (hW : Below w.heap.size w W) => C.keep w W hi (hgrown_of hW))
  have HA := hide hA
  have two := C.two
  obtain ⟨va, vc, rfl⟩ := seq_slice hv
  clear C hi hA KR hv
  rcases two with rfl | rfl
  all_goals
    go_enter Tryz.func74, Tryz.ntmps74
    go_wp2_with fail
    go_loopg [8] A.length (fun kx s8 wr => ∃ k : Nat, s8 = .int .i64 k ∧ k ≤ A.length ∧ A.length - k ≤ kx ∧ Hid (Below w.heap.size w wr))
    case atStart => exact ⟨0, rfl, Nat.zero_le _, Nat.le_refl _, hide (Below.refl _ _)⟩
    case round =>
      obtain ⟨k, rfl, hk, hg, hB⟩ := hrel
      by_cases hlt : k < A.length
      · obtain ⟨y, hy⟩ : ∃ y, A[k]? = some y := ⟨_, List.getElem?_eq_getElem hlt⟩
        obtain ⟨b, off, cap, he, hb, qr⟩ := unhide HKR wr (unhide hB) k y hy
        simp only [Value.slice.injEq] at he
        obtain ⟨rfl, _, rfl⟩ := he
        have d0 := qr.w0 hy
        have d1 := qr.w1 hy
        have d2 := qr.w2 hy
        have hbw : b < wr.heap.size := Nat.lt_of_lt_of_le hb (unhide hB).size
        have CX := (unhide HC).gives wr y (unhide HI wr (unhide hB))
        have hp : pr y = false := unhide HA y (List.mem_of_getElem? hy)
        rw [hp] at CX
        clear qr hy hp
        go_wp2_with fail
        refine CX.mono ?_
        rintro e w1 ⟨rfl, hb1⟩
        have hB1 := nnext (unhide hB) hb1
        clear CX hb1
        go_wp2_with fail
        go_roundg (A.length - (k + 1))
        case measure => omega
        case rel => exact ⟨k + 1, rfl, by omega, Nat.le_refl _, hide hB1⟩
      · obtain rfl : k = A.length := by omega
        go_wp2_with fail
        go_ret
        exact ⟨rfl, unhide hB⟩

end Go.Proofs.YtoacignhobchbaaGreatDoor

namespace Go.Proofs.YtoacignhobchbaaGreatDoor
open Go.RowKit

theorem ownS_base {α : Type} [Lay α] {W : World} {B C : Nat} {v : Value} {xs : List α} (h : OwnS W C v xs) (hB : ∀ k, v.ownBlock = some k → B ≤ k) : OwnS W B v xs := by
  rcases h with h | ⟨g, cap, rfl, _, h⟩
  · exact .inl h
  · exact .inr ⟨g, cap, rfl, hB g rfl, h⟩
theorem ownS_above {α : Type} [Lay α] {W : World} {B : Nat} {v : Value} {xs : List α} (h : OwnS W B v xs) : ∀ k, v.ownBlock = some k → B ≤ k := by
  rcases h with ⟨rfl, _⟩ | ⟨g, cap, rfl, h1, h⟩
  · intro k hk; cases hk
  · intro k hk; simp only [Value.ownBlock, Option.some.injEq] at hk; omega
theorem one_newT (w : World) (n : Nt) : OneR (w.alloc (.cells #[.int .i64 n.s, .int .i64 n.k, .string ⟨n.p.toArray⟩] 130)) w.heap.size n := heap_alloc_new w _
theorem step_app_nt {w : World} {ops : Array Oper} {o : Oper} {a : Act} {K : Act → World → Prop} {Q : Exit → Act → World → Prop} {E : Prop} (hgd : Region.wanted o (yielded ops a.tmps) = true) (s x : Operand)
    (ho : o.op = .call { callee := .builtin .append, args := #[s, x], argTypes := #[42, 42] })
    (v : Value) (ns : List Nt) (hs : a.eval s = v) (hown : OwnS w 0 v ns)
    (q : Nat) (hx : a.eval x = .slice (some ⟨q, 0, none⟩) 1 1) (t : Nt) (hnews : OneR w q t) (hl : (ns.length + 1) * 32 ≤ 140737488355328)
    (h : ∀ a' c' w', OwnS w' 0 (.slice a' (ns.length + 1) c') (ns ++ [t]) → w.grownBy w' v.ownBlock → ((Value.slice a' (ns.length + 1) c').ownBlock = v.ownBlock ∨ (Value.slice a' (ns.length + 1) c').ownBlock = some w.heap.size) → K (a.put o.dst (.slice a' (ns.length + 1) c')) w') :
    if Region.wanted o (yielded ops a.tmps) = true then Oper.wp Tryz.prog o a w K Q else E := by
  rw [if_pos hgd]
  obtain ⟨i0, hi0, hz0, hz1, hz2⟩ := tinfo
  obtain ⟨v', w', hr, h2, h3, _, h5⟩ := run_append_own_at (P := Tryz.prog) w 0 42 o.type 130 i0 _ 3 32 Tryz.underlying42 hi0 hz0 hz1 hz2 rfl (by decide) v ns.length (cellsL ns) hown.row ⟨q, 0, none⟩ 1 1 (ntcells t) rfl (one_news hnews) (Lay.one t) (by simp only [maxLen]; omega) hl (Nat.zero_le _)
  have h2' : OwnS w' 0 v' (ns ++ [t]) := OwnS.of_row (by rw [List.length_append, cellsL_snoc]; exact h2)
  obtain ⟨a', c', rfl, _⟩ := h2'.slice
  have hlen : (ns ++ [t]).length = ns.length + 1 := by simp
  rw [hlen] at h2' hr h5
  unfold Oper.wp execOp
  simp only [ho, resolve, invoke, builtin, Sem.run_bind, Sem.run_pure, Result.andThen_ok, List.map_toArray, List.map_cons, List.map_nil, hs, hx, hr]
  exact h a' c' w' h2' h3 h5

theorem told_snoc {ws : List Wa} {k : Nat} {x : Wa} {e : Ev} (h : ws[k]? = some x) : toldL (ws.take (k + 1)) e = toldL (ws.take k) e ++ (if offB x e = true then [noteOf e x] else []) := by
  rw [snoc_take h]
  simp only [toldL, List.filter_append, List.map_append]
  cases hx : offB x e <;> simp [hx]
theorem told_le (ws : List Wa) (e : Ev) (k : Nat) : (toldL (ws.take k) e).length ≤ k := by
  have := told_len (ws.take k) e
  have h2 : (ws.take k).length ≤ k := by simp; omega
  omega

set_option maxRecDepth 20000 in
set_option maxHeartbeats 4000000 in
theorem told_any (q cap B : Nat) (ws : List Wa) (e : Ev) (w : World) (hq : q < w.heap.size) (hr : RowAt w q 0 (cellsL ws)) (hE : OneR w B e) (hl : ws.length * 32 ≤ 140737488351232) (hp : e.p.length ≤ 140737488355328) :
    Calls Tryz.prog 42 #[.slice (some ⟨q, 0, none⟩) ws.length cap, evV e, .func (.func 40) #[] #[.pointer (some ⟨B, 0, none⟩)]] w fun r w' =>
      ∃ v', r = .returned v' ∧ OwnS w' w.heap.size v' (toldL ws e) ∧ Below w.heap.size w w' := by
  obtain ⟨w0, hw0⟩ : ∃ w0, w.alloc (.cells #[.int .i64 e.k, .string ⟨e.p.toArray⟩] 97) = w0 := ⟨_, rfl⟩
  have hz0 : w0.heap.size = w.heap.size + 1 := by rw [← hw0]; simp
  have hb0 : Below w.heap.size w w0 := by rw [← hw0]; exact allocB _ _
  have X0 : OneR w0 w.heap.size e := by rw [← hw0]; exact one_new w e.k e.p
  have HR := hide (fun W (hW : Below w0.heap.size w0 W) => (hr.kept hb0 hq).kept hW (by omega))
  have HX := hide (fun W (hW : Below w0.heap.size w0 W) => (⟨by simpa using (OneR.row ((hW.block _ (by omega)).trans X0) 0 _ rfl), by simpa using (OneR.row ((hW.block _ (by omega)).trans X0) 1 _ rfl)⟩ : W.cell? ⟨w.heap.size, 0, none⟩ = some (.int .i64 e.k) ∧ W.cell? ⟨w.heap.size, 1, none⟩ = some (.string ⟨e.p.toArray⟩)))
  have CF := hide (fun W (hW : Below w0.heap.size w0 W) x => fire1_any x e B W ((hW.block _ (by have := (Array.getElem?_eq_some_iff.1 hE).1; omega)).trans ((hb0.block _ (Array.getElem?_eq_some_iff.1 hE).1).trans hE)))
  have CC := fun W => hclone_any e.p W (by omega)
  have HB0 := hide hb0
  clear hr hE X0 hb0
  unfold evV
  unfold waV at CF
  go_enter Tryz.func42, Tryz.ntmps42
  go_wp2_with fail
  try rw [hw0]
  go_loopg [7, 12] ws.length (fun kx s7 s12 wr => ∃ (k : Nat) (va : Option Addr) (vc : Nat), s12 = .int .i64 k ∧ s7 = .slice va (toldL (ws.take k) e).length vc ∧ k ≤ ws.length ∧ ws.length - k ≤ kx ∧ Hid (OwnS wr w0.heap.size (.slice va (toldL (ws.take k) e).length vc) (toldL (ws.take k) e)) ∧ Hid (Below w0.heap.size w0 wr))
  case atStart => exact ⟨0, none, 0, rfl, rfl, Nat.zero_le _, Nat.le_refl _, hide (.inl ⟨rfl, rfl⟩), hide (Below.refl _ _)⟩
  case round =>
    obtain ⟨k, va, vc, rfl, rfl, hk, hg, hO, hB⟩ := hrel
    by_cases hlt : k < ws.length
    · obtain ⟨x, hx⟩ : ∃ x, ws[k]? = some x := ⟨_, List.getElem?_eq_getElem hlt⟩
      have qr := unhide HR wr (unhide hB)
      have d0 := qr.w0 hx
      have d1 := qr.w1 hx
      have d2 := qr.w2 hx
      simp only [Nat.zero_add] at d0 d1 d2
      have hqw : q < wr.heap.size := by have := (unhide hB).size; omega
      have hts := told_snoc (e := e) hx
      have hnl := told_le ws e k
      obtain ⟨N, hN⟩ : ∃ N, toldL (ws.take k) e = N := ⟨_, rfl⟩
      rw [hN] at hO hts hnl
      have hB1 := nnext (unhide hB) (allocB wr (.cells #[.int .i64 x.s, .int .i64 x.k, .string ⟨x.p.toArray⟩] 72))
      have CX := unhide CF _ hB1 x
      have HB1 := hide hB1
      rw [hN]
      clear qr hx hN hB1
      cases hpx : offB x e
      · rw [hpx] at CX hts
        simp only [Bool.false_eq_true, if_false, List.append_nil] at hts
        have HTS := hide hts
        clear hts hpx
        go_wp2_with fail
        refine CX.mono ?_
        rintro r w1 ⟨rfl, hb1⟩
        have HB2 := hide (nnext (unhide HB1) hb1)
        have HO2 := hide (((unhide hO).next (allocB wr (.cells #[.int .i64 x.s, .int .i64 x.k, .string ⟨x.p.toArray⟩] 72))).next hb1)
        clear CX hb1
        go_wp2_with fail
        go_roundg (ws.length - (k + 1))
        case measure => omega
        case rel => exact ⟨k + 1, va, vc, rfl, by rw [unhide HTS], by omega, Nat.le_refl _, by rw [unhide HTS]; exact HO2, HB2⟩
      · rw [hpx] at CX hts
        simp only [if_true] at hts
        have HTS := hide hts
        clear hts hpx
        go_wp2_with fail
        refine CX.mono ?_
        rintro r w1 ⟨rfl, hb1⟩
        have HB2 := hide (nnext (unhide HB1) hb1)
        have O2 := ((unhide hO).next (allocB wr (.cells #[.int .i64 x.s, .int .i64 x.k, .string ⟨x.p.toArray⟩] 72))).next hb1
        have K1 : ∀ w2, Below w1.heap.size w1 w2 → w2.cell? ⟨wr.heap.size, 0, none⟩ = some (.int .i64 x.s) ∧ w2.cell? ⟨w.heap.size, 0, none⟩ = some (.int .i64 e.k) ∧ w2.cell? ⟨w.heap.size, 1, none⟩ = some (.string ⟨e.p.toArray⟩) := by
          intro w2 hb2
          have hbb := nnext (unhide HB2) hb2
          refine ⟨?_, (unhide HX w2 hbb).1, (unhide HX w2 hbb).2⟩
          have hz : wr.heap.size < w1.heap.size := by have := hb1.size; simp at this; omega
          rw [hb2.cell (p := ⟨wr.heap.size, 0, none⟩) hz, hb1.cell (p := ⟨wr.heap.size, 0, none⟩) (by simp)]
          simp
        obtain ⟨m0, m1, m2⟩ := K1 w1 (Below.refl _ _)
        have HK1 := hide K1
        have KE := hide (fun w2 (hb2 : Below w1.heap.size w1 w2) => ((O2.next hb2).next (allocB w2 (.cells #[.int .i64 x.s, .int .i64 e.k, .string ⟨e.p.toArray⟩] 130))).lower (Nat.zero_le w0.heap.size))
        have KA := hide (ownS_above O2)
        have K2 : ∀ (w2 w3 : World) (a3 : Option Addr) (c3 : Nat), Below w1.heap.size w1 w2 → OwnS w3 0 (.slice a3 (N.length + 1) c3) (N ++ [⟨x.s, e.k, e.p⟩]) → (w2.alloc (.cells #[.int .i64 x.s, .int .i64 e.k, .string ⟨e.p.toArray⟩] 130)).grownBy w3 (Value.slice va N.length vc).ownBlock →
            ((Value.slice a3 (N.length + 1) c3).ownBlock = (Value.slice va N.length vc).ownBlock ∨ (Value.slice a3 (N.length + 1) c3).ownBlock = some (w2.alloc (.cells #[.int .i64 x.s, .int .i64 e.k, .string ⟨e.p.toArray⟩] 130)).heap.size) →
            OwnS w3 w0.heap.size (.slice a3 (N.length + 1) c3) (N ++ [⟨x.s, e.k, e.p⟩]) ∧ Below w0.heap.size w0 w3 := by
          intro w2 w3 a3 c3 hb2 ho3 hg3 hl3
          have hbb := nnext (nnext (unhide HB2) hb2) (allocB w2 (.cells #[.int .i64 x.s, .int .i64 e.k, .string ⟨e.p.toArray⟩] 130))
          refine ⟨ownS_base ho3 (fun j hj => ?_), hbb.grown hg3 hbb.size (unhide KA)⟩
          rcases hl3 with h | h
          · rw [h] at hj; exact unhide KA j hj
          · rw [h] at hj; cases hj; exact hbb.size
        have HK2 := hide K2
        have hsz1 : wr.heap.size < w1.heap.size := by have := hb1.size; simp at this; omega
        have hsz2 : w.heap.size < w1.heap.size := by have := (unhide HB2).size; omega
        have hNl : (N.length + 1) * 32 ≤ 140737488355328 := by omega
        clear CX hb1 K1 K2 O2
        go_wp2_with fail
        go_region_law (first
          | (refine step_app_nt (by kernel_rfl) _ _ (by rfl) (.slice va N.length vc) N (by rfl) (unhide KE w2 (unhide HB3)) w2.heap.size (by rfl) ⟨x.s, e.k, e.p⟩ (one_newT w2 ⟨x.s, e.k, e.p⟩) hNl ?_; intro a3 c3 w3 ho3 hg3 hl3; obtain ⟨o3, b3⟩ := unhide HK2 w2 w3 a3 c3 (unhide HB3) ho3 hg3 hl3; have HO3 := hide o3; have HB4 := hide b3; clear ho3 hg3 hl3 o3 b3)
          | (go_simp; refine (CC _).mono ?_; rintro r w2 ⟨rfl, hb2⟩; have HB3 : Hid (Below w1.heap.size w1 w2) := (by first | exact hb2 | exact nbelow_drew hb2); obtain ⟨p0, p1, p2⟩ := unhide HK1 w2 (unhide HB3); clear hb2))
        all_goals
          go_wp2_with fail
          go_roundg (ws.length - (k + 1))
          case measure => omega
          case rel => exact ⟨k + 1, _, _, rfl, by rw [unhide HTS, List.length_append]; rfl, by omega, Nat.le_refl _, by rw [unhide HTS, List.length_append]; exact HO3, HB4⟩
    · obtain rfl : k = ws.length := by omega
      rw [List.take_length] at hO ⊢
      have HB := hide (nnext (unhide HB0) (unhide hB))
      have hO2 : Hid (OwnS wr w.heap.size (.slice va (toldL ws e).length vc) (toldL ws e)) := hide ((unhide hO).lower (by omega))
      clear hO
      go_wp2_with fail
      go_ret
      exact ⟨_, rfl, unhide hO2, unhide HB⟩

end Go.Proofs.YtoacignhobchbaaGreatDoor

namespace Go.Proofs.YtoacignhobchbaaGreatDoor
open Go.RowKit

theorem first_at (pr : Wa → Bool) : ∀ ws : List Wa, (∀ a ∈ ws, pr a = false) ∨ ∃ A x R, ws = A ++ x :: R ∧ (∀ a ∈ A, pr a = false) ∧ pr x = true
  | [] => .inl (by simp)
  | y :: r => by
    cases h : pr y
    · rcases first_at pr r with h1 | ⟨A, x, R, rfl, h1, h2⟩
      · exact .inl (by intro a ha; rcases List.mem_cons.1 ha with rfl | ha; exact h; exact h1 a ha)
      · exact .inr ⟨y :: A, x, R, rfl, (by intro a ha; rcases List.mem_cons.1 ha with rfl | ha; exact h; exact h1 a ha), h2⟩
    · exact .inr ⟨[], y, r, rfl, by simp, h⟩
theorem filt_none {pr : Wa → Bool} {ws : List Wa} (h : ∀ a ∈ ws, pr a = false) : ws.filter (fun x => !pr x) = ws := by
  rw [List.filter_eq_self]
  intro a ha
  simp [h a ha]

set_option maxRecDepth 10000 in
set_option maxHeartbeats 4000000 in
theorem hdel_any {g : FuncId} {B q : Nat} {pr : Wa → Bool} {I : World → Prop} (C : Clos g B q pr I) (cap : Nat) (ws : List Wa) (w : World) (hi : I w) (ho : OwnR w q cap ws) (hl : ws.length ≤ 140737488355328) :
    Calls Tryz.prog 43 #[.slice (some ⟨q, 0, none⟩) ws.length cap, .func (.func g) #[] #[.pointer (some ⟨B, 0, none⟩)]] w fun e w' =>
      e = .returned (.slice (some ⟨q, 0, none⟩) (ws.filter (fun x => !pr x)).length cap) ∧ OwnR w' q cap (ws.filter (fun x => !pr x)) ∧ w.grownBy w' (some q) := by
  rcases first_at pr ws with hA | ⟨A, x, R, hws, hA, hx⟩
  · rw [filt_none hA]
    have CN := hidx_none C _ ws w hi (OwnS.seq (.inr ⟨q, cap, rfl, Nat.zero_le _, ho⟩)) hl hA
    have HO := hide ho
    have two := C.two
    clear C hA hi ho
    rcases two with rfl | rfl
    all_goals
      go_enter Tryz.func43, Tryz.ntmps43
      go_wp2_with fail
      refine CN.mono ?_
      rintro e w1 ⟨rfl, hb1⟩
      have HB := hide hb1
      clear CN hb1
      go_wp2_with fail
      go_ret
      exact ⟨rfl, (unhide HO).next (unhide HB), hgrown_of (unhide HB)⟩
  · obtain ⟨n, hn⟩ : ∃ n, ws.length = n := ⟨_, rfl⟩
    have hAn : A.length < n := by rw [← hn, hws]; simp
    have hnc : n ≤ cap := by rw [← hn]; exact ho.le
    have hcl := ho.capLe
    simp only [maxLen] at hcl
    have CA := hidx_at C q 0 cap A x R w hi ho.lt (by rw [← hws]; exact ho.row) (by rw [← hws]; exact hl) hA hx
    rw [← hws, hn] at CA
    obtain ⟨T, hT⟩ : ∃ T, ws.filter (fun x => !pr x) = T := ⟨_, rfl⟩
    rw [hn] at hl ⊢
    rw [hT]
    have HTk : Hid (∀ j, n ≤ j → (ws.take j).filter (fun x => !pr x) = T) := hide (fun j hj => by rw [List.take_of_length_le (by omega)]; exact hT)
    have HF0 : Hid ((ws.take (A.length + 1)).filter (fun x => !pr x) = A) := hide (by
      rw [hws, List.take_append, List.take_of_length_le (by omega), List.filter_append, filt_none hA]
      simp [hx])
    have HG0 : Hid (ws = A ++ [x] ++ ws.drop (A.length + 1)) := hide (by
      rw [hws]; simp)
    have HN := hide hn
    have HO := hide ho
    have HC := hide C
    have HI := hide (fun W (hW : w.grownBy W (some q)) => C.keep w W hi hW)
    have two := C.two
    clear hn hws hA hx ho C hT hi
    rcases two with rfl | rfl
    all_goals
      go_enter Tryz.func43, Tryz.ntmps43
      go_wp2_with fail
      refine CA.mono ?_
      rintro e w1 ⟨rfl, hb1⟩
      have HB := hide hb1
      clear CA hb1
      go_wp2_with fail
      go_loopg [5, 6] n (fun kx s5 s6 wr => ∃ (j : Nat) (F G : List Wa), s5 = .int .i64 F.length ∧ s6 = .int .i64 j ∧ j ≤ n ∧ n - j ≤ kx ∧ F.length + G.length = j ∧ 0 < G.length ∧ Hid ((ws.take j).filter (fun x => !pr x) = F) ∧ Hid (OwnR wr q cap (F ++ G ++ ws.drop j)) ∧ Hid (w.grownBy wr (some q)))
      case atStart => exact ⟨A.length + 1, A, [x], rfl, rfl, by omega, by omega, rfl, by simp, HF0, hide (by rw [← unhide HG0]; exact (unhide HO).next (unhide HB)), hide (hgrown_of (unhide HB))⟩
      case round =>
        obtain ⟨j, F, G, rfl, rfl, hj, hg, hFG, hG0, hF, hO, hW⟩ := hrel
        have hFj : F.length < j := by omega
        by_cases hlt : j < n
        · obtain ⟨y, hy⟩ : ∃ y, ws[j]? = some y := ⟨_, List.getElem?_eq_getElem (by rw [unhide HN]; exact hlt)⟩
          have hd : ws.drop j = y :: ws.drop (j + 1) := by
            obtain ⟨h1, h2⟩ := List.getElem?_eq_some_iff.1 hy
            rw [List.drop_eq_getElem_cons h1, h2]
          have hf : (ws.take (j + 1)).filter (fun x => !pr x) = F ++ (if pr y = true then [] else [y]) := by
            rw [snoc_take hy, List.filter_append, unhide hF]
            cases hpy : pr y <;> simp [hpy]
          rw [hd] at hO
          have hyr : (F ++ G ++ y :: ws.drop (j + 1))[j]? = some y := by
            rw [List.getElem?_append_right (by simp; omega)]
            simp [hFG]
          obtain ⟨z, G', rfl⟩ : ∃ z G', G = z :: G' := by
            cases G with
            | nil => simp at hG0
            | cons z G' => exact ⟨z, G', rfl⟩
          have hzr : (F ++ z :: G' ++ y :: ws.drop (j + 1))[F.length]? = some z := by simp
          have d0 := (unhide hO).row.w0 hyr
          have d1 := (unhide hO).row.w1 hyr
          have d2 := (unhide hO).row.w2 hyr
          have hq := (unhide hO).lt
          have hqn : q ≠ wr.heap.size := by omega
          simp only [Nat.zero_add] at d0 d1 d2
          have HW1 := hide (ngrown_trans (unhide hW) (hgrown_of (allocB wr (.cells #[.int .i64 y.s, .int .i64 y.k, .string ⟨y.p.toArray⟩] 72))))
          have CX := (unhide HC).gives _ y (unhide HI _ (unhide HW1))
          have hjn : (j : Int) < (n : Int) := by omega
          by_cases hp : pr y = true
          · rw [hp] at CX hf
            rw [if_pos rfl, List.append_nil] at hf
            have HF := hide hf
            clear hy hd hf hyr hp hzr
            go_wp2_with fail
            refine CX.mono ?_
            rintro e w2 ⟨rfl, hb2⟩
            have HO2 : Hid (OwnR w2 q cap (F ++ (z :: G' ++ [y]) ++ ws.drop (j + 1))) := hide (by
              have := ((unhide hO).next (allocB wr (.cells #[.int .i64 y.s, .int .i64 y.k, .string ⟨y.p.toArray⟩] 72))).next hb2
              simpa using this)
            have HW2 := hide (ngrown_trans (unhide HW1) (hgrown_of hb2))
            clear CX hb2
            go_wp2_with fail
            go_roundg (n - (j + 1))
            case measure => omega
            case rel => exact ⟨j + 1, F, z :: G' ++ [y], rfl, rfl, by omega, Nat.le_refl _, by simp at hFG ⊢; omega, by simp, HF, HO2, HW2⟩
          · have hp' : pr y = false := by simpa using hp
            rw [hp'] at CX
            rw [if_neg hp] at hf
            have HF := hide hf
            clear hy hd hf hyr hp hp'
            have hFn : (F.length : Int) < (n : Int) := by omega
            go_wp2_with fail
            refine CX.mono ?_
            rintro e w2 ⟨rfl, hb2⟩
            have O2 := ((unhide hO).next (allocB wr (.cells #[.int .i64 y.s, .int .i64 y.k, .string ⟨y.p.toArray⟩] 72))).next hb2
            have c0 : w2.cell? ⟨wr.heap.size, 0, none⟩ = some (.int .i64 y.s) := by rw [hb2.cell (p := ⟨wr.heap.size, 0, none⟩) (by simp)]; simp
            have c1 : w2.cell? ⟨wr.heap.size, 1, none⟩ = some (.int .i64 y.k) := by rw [hb2.cell (p := ⟨wr.heap.size, 1, none⟩) (by simp)]; simp
            have c2 : w2.cell? ⟨wr.heap.size, 2, none⟩ = some (.string ⟨y.p.toArray⟩) := by rw [hb2.cell (p := ⟨wr.heap.size, 2, none⟩) (by simp)]; simp
            have e0 := O2.row.w0 hzr
            have e1 := O2.row.w1 hzr
            have e2 := O2.row.w2 hzr
            simp only [Nat.zero_add] at e0 e1 e2
            have f0 := O2.frozen (F.length * 3)
            have f1 := O2.frozen (F.length * 3 + 1)
            have f2 := O2.frozen (F.length * 3 + 2)
            have hz2 : wr.heap.size < w2.heap.size := by have := hb2.size; simp at this; omega
            have HO3 : Hid (OwnR (((w2.setCell ⟨q, F.length * 3, none⟩ (.int .i64 y.s)).setCell ⟨q, F.length * 3 + 1, none⟩ (.int .i64 y.k)).setCell ⟨q, F.length * 3 + 2, none⟩ (.string ⟨y.p.toArray⟩)) q cap ((F ++ [y]) ++ (G' ++ [y]) ++ ws.drop (j + 1))) := hide (by
              have O2' : OwnR w2 q cap (F ++ z :: (G' ++ y :: ws.drop (j + 1))) := by simpa using O2
              have := O2'.swap1 y
              have e : F ++ [y] ++ (G' ++ [y]) ++ ws.drop (j + 1) = F ++ y :: (G' ++ y :: ws.drop (j + 1)) := by simp
              rw [e]
              exact this)
            have HW3 : Hid (w.grownBy (((w2.setCell ⟨q, F.length * 3, none⟩ (.int .i64 y.s)).setCell ⟨q, F.length * 3 + 1, none⟩ (.int .i64 y.k)).setCell ⟨q, F.length * 3 + 2, none⟩ (.string ⟨y.p.toArray⟩)) (some q)) :=
              hide (ngrown_trans (ngrown_trans (ngrown_trans (ngrown_trans (unhide HW1) (hgrown_of hb2)) (ngrown_set _)) (ngrown_set _)) (ngrown_set _))
            clear CX hb2 O2 hzr
            go_wp2_with fail
            go_roundg (n - (j + 1))
            case measure => omega
            case rel => exact ⟨j + 1, F ++ [y], G' ++ [y], by rw [List.length_append]; rfl, rfl, by omega, Nat.le_refl _, by simp at hFG ⊢; omega, by simp, HF, HO3, HW3⟩
        · obtain rfl : j = n := by omega
          have hTF : T = F := ((unhide HTk j (Nat.le_refl _)).symm.trans (unhide hF))
          have OF : OwnR wr q cap F := OwnR.head (B := G ++ ws.drop j) (by have := unhide hO; rwa [List.append_assoc] at this)
          have hclr : ∀ ty c, (Builtin.clear_ #[23] ty #[.slice (some ⟨q, F.length * 3, none⟩) (j - F.length) c]).run Tryz.prog wr = .ok (.tuple #[]) (wr.setCells q (F.length * 3) (zerosW (j - F.length))) := fun ty c =>
            run_clearW wr ty q _ _ c (by omega) (fun i hi => OF.some (show F.length * 3 + i < cap * 3 by omega)) (fun i hi => OF.frozen _)
          have FIN : Hid (OwnR (wr.setCells q (F.length * 3) (zerosW (j - F.length))) q cap F ∧ w.grownBy (wr.setCells q (F.length * 3) (zerosW (j - F.length))) (some q)) :=
            hide ⟨OF.spare _ _ (Nat.le_refl _) (by rw [zerosW_length]; show _ ≤ cap * 3; omega), ngrown_trans (unhide hW) (ngrown_setCells _ _ _)⟩
          have hcn : ¬ (cap = F.length) := by omega
          have hFc : F.length ≤ cap := by omega
          have hFn : F.length ≤ j := by omega
          have hjj : ¬ ((j : Int) < (j : Int)) := by omega
          clear OF hO hW hF HTk HF0 HG0
          subst hTF
          go_wp2_with fail
          go_ret
          exact ⟨rfl, (unhide FIN).1, (unhide FIN).2⟩

end Go.Proofs.YtoacignhobchbaaGreatDoor
