/-
  recipe.Fence, and the document's own: the walks.
  recipe.Ask and recipe.below, and the document's own: the walks.
  slices.Index at texts, and recipe.Before: the walks.
  A node that came out of a call, in a box of its own.
  recipe.Holder: the walks.
  What aviarykeep.pick answers: the walk.
  Transactions as laid elements.
  Append of one laid element to a row of the call's own; rows of two kinds of elements are two blocks.
  A slice of elements that are laid in a row, as an argument: opened, with what is known of each.
  A list of numbers as an argument: opened, each within its 64 bits.
-/
import Derived.Test.YtcplpbelficbeaaGreatDoorRows
import Derived.Test.YtcplpbelficbeaaGreatDoorRQT
import Derived.WalkKit
import Derived.WalkSpells
import Derived.WalkLawsBesides
import Derived.Lib.Strings
import Derived.Deep.RegionLaw
import Derived.Test.YtcplpbelficbeaaGreatDoorRQV
import Derived.Test.YtcplpbelficbeaaGreatDoorRQO
import Derived.Deep.RegionHeld3
import Derived.Deep.CutRange
import Derived.Test.YtcplpbelficbeaaGreatDoorRQA
import Derived.Test.YtcplpbelficbeaaGreatDoorRQK
import Derived.Test.YtcplpbelficbeaaGreatDoorRQE
import Derived.Deep.AppendLies
import Derived.ProofKit
import Derived.OpenShut
import Derived.SizedLaws
import Derived.Deep.Slices
import Derived.Carry
namespace Go.Proofs.YtcplpbelficbeaaGreatDoor
open Go.RowKit

theorem ret_ib {a b : Int} {c : Bool} (h : a = b) : Ending.returned (.tuple #[.int .i64 a, .bool c]) = .returned (.tuple #[.int .i64 b, .bool c]) := by rw [h]
set_option maxRecDepth 10000 in
set_option maxHeartbeats 400000 in
theorem fence_any (a b : Int) (w : World) :
    Calls Tryz.prog 13 #[.int .i64 a, .int .i64 b] w fun e w' => e = .returned (.tuple #[.int .i64 (fenN a b), .bool (decide (a ≤ b))]) ∧ w' = w := by
  unfold fenN
  go_enter Tryz.func13, Tryz.ntmps13
  go_wp2
  all_goals go_ret2
  all_goals exact ⟨ret_ib (by omega), rfl⟩

set_option maxRecDepth 10000 in
theorem fences_true (w : World) : Calls Tryz.prog 4 #[] w fun e w' => e = .returned (.bool true) ∧ w' = w := by
  go_enter Tryz.func4, Tryz.ntmps4
  go_wp2_with fail
  refine (fence_any _ _ _).mono ?_
  rintro e w1 ⟨rfl, rfl⟩
  rw [show fenN 5 6 = 6 from rfl]
  go_wp2_with fail
  go_ret
  exact ⟨rfl, rfl⟩

end Go.Proofs.YtcplpbelficbeaaGreatDoor

namespace Go.Proofs.YtcplpbelficbeaaGreatDoor
open Go.RowKit
set_option maxRecDepth 10000 in

set_option maxHeartbeats 400000 in
theorem below_any (d m : List UInt8) (w : World) (hd : d.length ≤ 140737488351232) (hm : m.length ≤ 140737488351232) :
    Calls Tryz.prog 20 #[.string ⟨d.toArray⟩, .string ⟨m.toArray⟩] w fun e w' => e = .returned (.string ⟨(belL d m).toArray⟩) ∧ w' = w := by
  have hz : (ByteArray.mk d.toArray).size = d.length := Lib.size_eq ⟨d.toArray⟩
  have hy : (ByteArray.mk m.toArray).size = m.length := Lib.size_eq ⟨m.toArray⟩
  by_cases h : d = [47]
  · subst h
    go_enter Tryz.func20, Tryz.ntmps20
    go_wp2
    go_ret
    exact ⟨rret_str (by rw [belL_root]; exact rcat [47] m), rfl⟩
  · have h1 : (d == [47]) = false := by simpa using h
    have Ho := hide (belL_other h m)
    clear h
    go_enter Tryz.func20, Tryz.ntmps20
    go_wp2
    go_ret
    exact ⟨rret_str (by rw [unhide Ho, show d ++ 47 :: m = (d ++ [47]) ++ m by simp, ← rcat, ← rcat]), rfl⟩

set_option maxRecDepth 10000 in
set_option maxHeartbeats 400000 in
theorem ask_any (s : Int) (d m : List UInt8) (w : World) (hd : d.length ≤ 140737488351232) (hm : m.length ≤ 140737488351232) :
    Calls Tryz.prog 10 #[.int .i64 s, .string ⟨d.toArray⟩, .string ⟨m.toArray⟩] w fun e w' => e = .returned (.agg #[.int .i64 3, .int .i64 s, .string ⟨(belL d m).toArray⟩, .string ⟨#[]⟩, .int .i64 (-1), .int .i64 3]) ∧ Below w.heap.size w w' := by
  go_enter Tryz.func10, Tryz.ntmps10
  go_wp2_with fail
  refine (below_any _ _ _ hd hm).mono ?_
  rintro e w1 ⟨rfl, rfl⟩
  go_wp2_with fail
  exact bodyPost_ret (v := .agg #[.int .i64 3, .int .i64 s, .string ⟨(belL d m).toArray⟩, .string ⟨#[]⟩, .int .i64 (-1), .int .i64 3]) (by simp [results, Tryz.results10, go_sem]) rfl ⟨rfl, (Below.refl _ w).alloc (Nat.le_refl _) _⟩

end Go.Proofs.YtcplpbelficbeaaGreatDoor

namespace Go.Proofs.YtcplpbelficbeaaGreatDoor
open Go.RowKit

/-- a row of texts that lies there, or nothing -/
theorem srow {w : World} {v : Value} {xs : List (List UInt8)} (hv : SeqV w v xs) : ∀ W, Below w.heap.size w W → ∀ (k : Nat) (x : List UInt8), xs[k]? = some x → ∃ b off cap, v = .slice (some ⟨b, off, none⟩) xs.length cap ∧ b < w.heap.size ∧ RowAt W b off (cellsL xs) := fun W hW k x hx => by
  obtain ⟨b, off, cap, e, hb, hr, _, _⟩ := seq_row hv (fun h0 => by obtain ⟨h1, _⟩ := List.getElem?_eq_some_iff.1 hx; rw [h0] at h1; simp at h1)
  exact ⟨b, off, cap, e, hb, hr.kept hW hb⟩

end Go.Proofs.YtcplpbelficbeaaGreatDoor

namespace Go.Proofs.YtcplpbelficbeaaGreatDoor
open Go.RowKit

structure NodX (w W : World) (q : Nat) (n : Nd) : Prop where
  b : Below w.heap.size w W
  le : w.heap.size ≤ q
  one : OneR W q n
theorem nod_new {w W : World} (p d : List UInt8) (c m q v k o n : Int) (hb : Below w.heap.size w W) : NodX w (W.alloc (.cells #[.string ⟨p.toArray⟩, .string ⟨d.toArray⟩, .int .i64 c, .int .i64 m, .int .i64 q, .int .i64 v, .int .i64 k, .int .i64 o, .int .i64 n] 52)) W.heap.size ⟨p, d, c, m, q, v, k, o, n⟩ :=
  ⟨nnext hb (allocB _ _), hb.size, one_newN W ⟨p, d, c, m, q, v, k, o, n⟩⟩
theorem nod_put {w W : World} {b : Nat} (p d : List UInt8) (c m q v k o n : Int) (hb : Below w.heap.size w W) (hq : w.heap.size ≤ b) (hz : OneR W b nzero) :
    NodX w (((((((((W.setCell ⟨b, 0, none⟩ (.string ⟨p.toArray⟩)).setCell ⟨b, 1, none⟩ (.string ⟨d.toArray⟩)).setCell ⟨b, 2, none⟩ (.int .i64 c)).setCell ⟨b, 3, none⟩ (.int .i64 m)).setCell ⟨b, 4, none⟩ (.int .i64 q)).setCell ⟨b, 5, none⟩ (.int .i64 v)).setCell ⟨b, 6, none⟩ (.int .i64 k)).setCell ⟨b, 7, none⟩ (.int .i64 o)).setCell ⟨b, 8, none⟩ (.int .i64 n)) b ⟨p, d, c, m, q, v, k, o, n⟩ := by
  refine ⟨((((((((hb.setCell hq _).setCell hq _).setCell hq _).setCell hq _).setCell hq _).setCell hq _).setCell hq _).setCell hq _).setCell hq _, hq, ?_⟩
  have h0 : W.heap[b]? = some (.cells #[.string ⟨#[]⟩, .string ⟨#[]⟩, .int .i64 0, .int .i64 0, .int .i64 0, .int .i64 0, .int .i64 0, .int .i64 0, .int .i64 0] 52 (0, 0)) := hz
  have h1 : (W.setCell ⟨b, 0, none⟩ (.string ⟨p.toArray⟩)).heap[b]? = some (.cells #[.string ⟨p.toArray⟩, .string ⟨#[]⟩, .int .i64 0, .int .i64 0, .int .i64 0, .int .i64 0, .int .i64 0, .int .i64 0, .int .i64 0] 52 (0, 0)) := by rw [block_set _ h0]; rfl
  have h2 : ((W.setCell ⟨b, 0, none⟩ (.string ⟨p.toArray⟩)).setCell ⟨b, 1, none⟩ (.string ⟨d.toArray⟩)).heap[b]? = some (.cells #[.string ⟨p.toArray⟩, .string ⟨d.toArray⟩, .int .i64 0, .int .i64 0, .int .i64 0, .int .i64 0, .int .i64 0, .int .i64 0, .int .i64 0] 52 (0, 0)) := by rw [block_set _ h1]; rfl
  have h3 : (((W.setCell ⟨b, 0, none⟩ (.string ⟨p.toArray⟩)).setCell ⟨b, 1, none⟩ (.string ⟨d.toArray⟩)).setCell ⟨b, 2, none⟩ (.int .i64 c)).heap[b]? = some (.cells #[.string ⟨p.toArray⟩, .string ⟨d.toArray⟩, .int .i64 c, .int .i64 0, .int .i64 0, .int .i64 0, .int .i64 0, .int .i64 0, .int .i64 0] 52 (0, 0)) := by rw [block_set _ h2]; rfl
  have h4 : ((((W.setCell ⟨b, 0, none⟩ (.string ⟨p.toArray⟩)).setCell ⟨b, 1, none⟩ (.string ⟨d.toArray⟩)).setCell ⟨b, 2, none⟩ (.int .i64 c)).setCell ⟨b, 3, none⟩ (.int .i64 m)).heap[b]? = some (.cells #[.string ⟨p.toArray⟩, .string ⟨d.toArray⟩, .int .i64 c, .int .i64 m, .int .i64 0, .int .i64 0, .int .i64 0, .int .i64 0, .int .i64 0] 52 (0, 0)) := by rw [block_set _ h3]; rfl
  have h5 : (((((W.setCell ⟨b, 0, none⟩ (.string ⟨p.toArray⟩)).setCell ⟨b, 1, none⟩ (.string ⟨d.toArray⟩)).setCell ⟨b, 2, none⟩ (.int .i64 c)).setCell ⟨b, 3, none⟩ (.int .i64 m)).setCell ⟨b, 4, none⟩ (.int .i64 q)).heap[b]? = some (.cells #[.string ⟨p.toArray⟩, .string ⟨d.toArray⟩, .int .i64 c, .int .i64 m, .int .i64 q, .int .i64 0, .int .i64 0, .int .i64 0, .int .i64 0] 52 (0, 0)) := by rw [block_set _ h4]; rfl
  have h6 : ((((((W.setCell ⟨b, 0, none⟩ (.string ⟨p.toArray⟩)).setCell ⟨b, 1, none⟩ (.string ⟨d.toArray⟩)).setCell ⟨b, 2, none⟩ (.int .i64 c)).setCell ⟨b, 3, none⟩ (.int .i64 m)).setCell ⟨b, 4, none⟩ (.int .i64 q)).setCell ⟨b, 5, none⟩ (.int .i64 v)).heap[b]? = some (.cells #[.string ⟨p.toArray⟩, .string ⟨d.toArray⟩, .int .i64 c, .int .i64 m, .int .i64 q, .int .i64 v, .int .i64 0, .int .i64 0, .int .i64 0] 52 (0, 0)) := by rw [block_set _ h5]; rfl
  have h7 : (((((((W.setCell ⟨b, 0, none⟩ (.string ⟨p.toArray⟩)).setCell ⟨b, 1, none⟩ (.string ⟨d.toArray⟩)).setCell ⟨b, 2, none⟩ (.int .i64 c)).setCell ⟨b, 3, none⟩ (.int .i64 m)).setCell ⟨b, 4, none⟩ (.int .i64 q)).setCell ⟨b, 5, none⟩ (.int .i64 v)).setCell ⟨b, 6, none⟩ (.int .i64 k)).heap[b]? = some (.cells #[.string ⟨p.toArray⟩, .string ⟨d.toArray⟩, .int .i64 c, .int .i64 m, .int .i64 q, .int .i64 v, .int .i64 k, .int .i64 0, .int .i64 0] 52 (0, 0)) := by rw [block_set _ h6]; rfl
  have h8 : ((((((((W.setCell ⟨b, 0, none⟩ (.string ⟨p.toArray⟩)).setCell ⟨b, 1, none⟩ (.string ⟨d.toArray⟩)).setCell ⟨b, 2, none⟩ (.int .i64 c)).setCell ⟨b, 3, none⟩ (.int .i64 m)).setCell ⟨b, 4, none⟩ (.int .i64 q)).setCell ⟨b, 5, none⟩ (.int .i64 v)).setCell ⟨b, 6, none⟩ (.int .i64 k)).setCell ⟨b, 7, none⟩ (.int .i64 o)).heap[b]? = some (.cells #[.string ⟨p.toArray⟩, .string ⟨d.toArray⟩, .int .i64 c, .int .i64 m, .int .i64 q, .int .i64 v, .int .i64 k, .int .i64 o, .int .i64 0] 52 (0, 0)) := by rw [block_set _ h7]; rfl
  have h9 : (((((((((W.setCell ⟨b, 0, none⟩ (.string ⟨p.toArray⟩)).setCell ⟨b, 1, none⟩ (.string ⟨d.toArray⟩)).setCell ⟨b, 2, none⟩ (.int .i64 c)).setCell ⟨b, 3, none⟩ (.int .i64 m)).setCell ⟨b, 4, none⟩ (.int .i64 q)).setCell ⟨b, 5, none⟩ (.int .i64 v)).setCell ⟨b, 6, none⟩ (.int .i64 k)).setCell ⟨b, 7, none⟩ (.int .i64 o)).setCell ⟨b, 8, none⟩ (.int .i64 n)).heap[b]? = some (.cells #[.string ⟨p.toArray⟩, .string ⟨d.toArray⟩, .int .i64 c, .int .i64 m, .int .i64 q, .int .i64 v, .int .i64 k, .int .i64 o, .int .i64 n] 52 (0, 0)) := by rw [block_set _ h8]; rfl
  exact h9
theorem zcells9 {W : World} {q : Nat} (h : OneR W q nzero) : (W.cell? ⟨q, 0, none⟩ = some (.string ⟨#[]⟩) ∧ W.cell? ⟨q, 1, none⟩ = some (.string ⟨#[]⟩) ∧ W.cell? ⟨q, 2, none⟩ = some (.int .i64 0) ∧ W.cell? ⟨q, 3, none⟩ = some (.int .i64 0) ∧ W.cell? ⟨q, 4, none⟩ = some (.int .i64 0) ∧ W.cell? ⟨q, 5, none⟩ = some (.int .i64 0) ∧ W.cell? ⟨q, 6, none⟩ = some (.int .i64 0) ∧ W.cell? ⟨q, 7, none⟩ = some (.int .i64 0) ∧ W.cell? ⟨q, 8, none⟩ = some (.int .i64 0)) ∧ W.frozen? ⟨q, 0, none⟩ = false ∧ W.frozen? ⟨q, 1, none⟩ = false ∧ W.frozen? ⟨q, 2, none⟩ = false ∧ W.frozen? ⟨q, 3, none⟩ = false ∧ W.frozen? ⟨q, 4, none⟩ = false ∧ W.frozen? ⟨q, 5, none⟩ = false ∧ W.frozen? ⟨q, 6, none⟩ = false ∧ W.frozen? ⟨q, 7, none⟩ = false ∧ W.frozen? ⟨q, 8, none⟩ = false :=
  ⟨⟨h.cellN 0 _ rfl, h.cellN 1 _ rfl, h.cellN 2 _ rfl, h.cellN 3 _ rfl, h.cellN 4 _ rfl, h.cellN 5 _ rfl, h.cellN 6 _ rfl, h.cellN 7 _ rfl, h.cellN 8 _ rfl⟩, h.frozenN 0, h.frozenN 1, h.frozenN 2, h.frozenN 3, h.frozenN 4, h.frozenN 5, h.frozenN 6, h.frozenN 7, h.frozenN 8⟩
end Go.Proofs.YtcplpbelficbeaaGreatDoor

namespace Go.Proofs.YtcplpbelficbeaaGreatDoor
open Go.RowKit

set_option maxRecDepth 20000 in
set_option maxHeartbeats 1000000 in
theorem holder_no (z : Int) (vn vs : Value) (ns : List Nd) (d m : List UInt8) (w : World) (hn : SeqV w vn ns) (ha : NAsc ns) (hl : ns.length ≤ 400) (hml : m.length ≤ 140737488355328) (hL : linL ns d m = []) :
    Calls Tryz.prog 12 #[.agg #[.int .i64 z, vn, vs], .string ⟨d.toArray⟩, .string ⟨m.toArray⟩] w fun e w' => e = .returned (.tuple #[.int .i64 0, .int .i64 0, .int .i64 (linE ns d m)]) ∧ Below w.heap.size w w' := by
  have CL := hide (fun W (hW : Below w.heap.size w W) => line_any z vn vs ns d m W (hn.next hW) ha hl hml)
  obtain ⟨E, hE⟩ : ∃ E, linE ns d m = E := ⟨_, rfl⟩
  rw [hE, hL] at CL
  rw [hE]
  obtain ⟨na, nc, rfl⟩ := seq_slice hn
  clear hn ha hL hE
  by_cases h0 : E = 0
  · subst h0
    go_enter Tryz.func12, Tryz.ntmps12
    go_wp2_with fail
    refine (unhide CL _ (allocB _ _)).mono ?_
    rintro e w1 ⟨v1, rfl, hk1, hb1⟩
    have HB1 := hide (nbox_then hb1)
    obtain ⟨ka, kc, rfl, _⟩ := hk1.slice
    clear hb1 hk1 CL
    go_wp2_with fail
    exact bodyPost_ret (v := .tuple #[.int .i64 0, .int .i64 0, .int .i64 0]) (by simp [results, Tryz.results12, go_sem]) rfl ⟨rfl, unhide HB1⟩
  · have h0b : (E == 0) = false := by simpa using h0
    have h0c : (E != 0) = true := by simpa using h0
    clear h0
    go_enter Tryz.func12, Tryz.ntmps12
    go_wp2_with fail
    refine (unhide CL _ (allocB _ _)).mono ?_
    rintro e w1 ⟨v1, rfl, hk1, hb1⟩
    have HB1 := hide (nbox_then hb1)
    obtain ⟨ka, kc, rfl, _⟩ := hk1.slice
    clear hb1 hk1 CL
    go_wp2_with fail
    exact bodyPost_ret (v := .tuple #[.int .i64 0, .int .i64 0, .int .i64 E]) (by simp [results, Tryz.results12, go_sem]) rfl ⟨rfl, unhide HB1⟩

set_option maxRecDepth 20000 in
set_option maxHeartbeats 2000000 in
theorem holder_at (z : Int) (vn vs : Value) (ns A B : List Nd) (n : Nd) (d m x : List UInt8) (r : List (List UInt8)) (w : World) (hn : SeqV w vn ns) (ha : NAsc ns) (hl : ns.length ≤ 400) (hml : m.length ≤ 140737488355328) (hE : linE ns d m = 0) (hL : linL ns d m = x :: r) (hd : d.length ≤ 200) (hx : x.length ≤ 200) (T : NThere ns A n B (belL d x)) (hp : n.p.length ≤ 140737488355328) (hdd : n.d.length ≤ 140737488355328) :
    Calls Tryz.prog 12 #[.agg #[.int .i64 z, vn, vs], .string ⟨d.toArray⟩, .string ⟨m.toArray⟩] w fun e w' => e = .returned (.tuple #[.int .i64 n.o, .int .i64 n.c, .int .i64 0]) ∧ Below w.heap.size w w' := by
  have CL := hide (fun W (hW : Below w.heap.size w W) => line_any z vn vs ns d m W (hn.next hW) ha hl hml)
  have CB := hide (fun W => below_any d x W (by omega) (by omega))
  have CG := hide (fun W (hW : Below w.heap.size w W) => tget_there z vn vs ns A B n (belL d x) W (hn.next hW) (by omega) T hp hdd)
  unfold nodeV at CG
  generalize belL d x = P at CB CG
  obtain ⟨L, hLL⟩ : ∃ L, linL ns d m = L := ⟨_, rfl⟩
  have HX : Hid (L[0]? = some x) := hide (by rw [← hLL, hL]; rfl)
  have hlen : 0 < L.length := by rw [← hLL, hL]; simp
  rw [hE, hLL] at CL
  obtain ⟨na, nc, rfl⟩ := seq_slice hn
  clear hn ha hL hE hLL T hd hx
  go_enter Tryz.func12, Tryz.ntmps12
  go_wp2_with fail
  refine (unhide CL _ (allocB _ _)).mono ?_
  rintro e w1 ⟨v1, rfl, hk1, hb1⟩
  have HB1 := hide (nbox_then hb1)
  have HR := hide (srow hk1.seq)
  obtain ⟨b, off, cap, he, hb, _⟩ := unhide HR w1 (Below.refl _ _) 0 x (unhide HX)
  have hb0 : w.heap.size < w1.heap.size := by have := hb1.size; simp at this; omega
  have KS : Hid (∀ V, Below w1.heap.size w1 V → V.cell? ⟨w.heap.size, 0, none⟩ = some (.int .i64 z) ∧ V.cell? ⟨w.heap.size, 1, none⟩ = some (.slice na ns.length nc) ∧ V.cell? ⟨w.heap.size, 2, none⟩ = some vs ∧ V.cell? ⟨b, off, none⟩ = some (.string ⟨x.toArray⟩)) := hide (fun V hV => by
    have hc : ∀ j, V.cell? ⟨w.heap.size, j, none⟩ = _ := fun j => (hV.cell (p := ⟨w.heap.size, j, none⟩) hb0).trans (hb1.cell (p := ⟨w.heap.size, j, none⟩) (by simp))
    refine ⟨(hc 0).trans (by simp), (hc 1).trans (by simp), (hc 2).trans (by simp), ?_⟩
    obtain ⟨b', off', cap', he', _, q⟩ := unhide HR V hV 0 x (unhide HX)
    rw [he] at he'
    simp only [Value.slice.injEq, Option.some.injEq, Addr.mk.injEq, and_true, true_and] at he'
    obtain ⟨⟨rfl, rfl⟩, _⟩ := he'
    exact q.s0 (unhide HX))
  have CG1 := hide (fun W (hW : Below w1.heap.size w1 W) => unhide CG W (nnext (unhide HB1) hW))
  obtain ⟨ka, kc, rfl, _⟩ := hk1.slice
  simp only [Value.slice.injEq] at he
  obtain ⟨rfl, _, rfl⟩ := he
  obtain ⟨e0, e1, e2, d0⟩ := unhide KS w1 (Below.refl _ _)
  have hli : (0 : Int) < (L.length : Int) := by omega
  have hl0 : ((L.length : Int) == 0) = false := beq_eq_false_iff_ne.2 (by omega)
  clear hk1 CL HR hb1 CG
  go_wp2_with fail
  go_cut [11, 10] from 12 (fun tx te wx => ∃ q, tx = .pointer (some ⟨q, 0, none⟩) ∧ te = .int .i64 0 ∧ Hid (NodX w1 wx q ⟨n.p, n.d, n.c, n.m, n.q, n.v, n.k, n.o, n.n⟩))
  case first =>
    go_region_law (first
      | (go_simp; refine (unhide CG1 _ (by first | with_reducible exact Below.refl _ _ | with_reducible exact (Below.refl _ _).drew | with_reducible exact allocB _ _ | with_reducible exact (allocB _ _).drew | with_reducible exact nnext (Below.refl _ _).drew (allocB _ _) | with_reducible exact nnext (nnext (Below.refl _ _).drew (allocB _ _)) (Below.refl _ _).drew)).mono ?_; rintro e aw2 ⟨rfl, hb2⟩; have aB2 : Hid (Below w1.heap.size w1 aw2) := hide (nnext (by first | with_reducible exact Below.refl _ _ | with_reducible exact (Below.refl _ _).drew | with_reducible exact allocB _ _ | with_reducible exact (allocB _ _).drew | with_reducible exact nnext (Below.refl _ _).drew (allocB _ _) | with_reducible exact nnext (nnext (Below.refl _ _).drew (allocB _ _)) (Below.refl _ _).drew) hb2); have ah2 := (unhide aB2).size; (try (have aZ2 : Hid (OneR aw2 w1.heap.size nzero) := hide ((hb2.block _ (by simp)).trans (heap_alloc_new w1 _)); obtain ⟨⟨az0, az1, az2, az3, az4, az5, az6, az7, az8⟩, af0, af1, af2, af3, af4, af5, af6, af7, af8⟩ := zcells9 (unhide aZ2); have ak2 := (Array.getElem?_eq_some_iff.1 (unhide aZ2)).1)); clear hb2)
      | (go_simp; refine (unhide CB _).mono ?_; rintro e aw1 ⟨rfl, rfl⟩))
    all_goals go_wp2_with fail
    all_goals go_meet
    all_goals refine ⟨_, rfl, rfl, hide ?_⟩
    all_goals first
      | with_reducible exact nod_new n.p n.d n.c n.m n.q n.v n.k n.o n.n (unhide aB2)
      | with_reducible exact nod_put n.p n.d n.c n.m n.q n.v n.k n.o n.n (unhide aB2) (Nat.le_refl _) (unhide aZ2)
  case rest =>
    obtain ⟨q, rfl, rfl, A1⟩ := hcut
    have c7 := (unhide A1).one.cellN 7 _ rfl
    have c2 := (unhide A1).one.cellN 2 _ rfl
    have B2 := hide (nnext (unhide HB1) (unhide A1).b)
    clear KS CG1 CB e0 e1 e2 d0
    go_wp2_with fail
    go_region
    go_wp2_with fail
    exact bodyPost_ret (v := .tuple #[.int .i64 n.o, .int .i64 n.c, .int .i64 0]) (by simp [results, Tryz.results12, go_sem]) rfl ⟨rfl, (unhide B2).drew⟩
/-- of every good tree -/
theorem holder_any (t : Tr) (vn vs : Value) (d m : List UInt8) (w : World) (hn : SeqV w vn t.ns) (g : GoodT t) (hml : m.length ≤ 140737488355328) :
    Calls Tryz.prog 12 #[.agg #[.int .i64 t.z, vn, vs], .string ⟨d.toArray⟩, .string ⟨m.toArray⟩] w fun e w' => e = .returned (.tuple #[.int .i64 (holO t.ns d m), .int .i64 (holC t.ns d m), .int .i64 (linE t.ns d m)]) ∧ Below w.heap.size w w' := by
  cases hL : linL t.ns d m with
  | nil =>
    rw [(hol_nil hL).1, (hol_nil hL).2]
    exact holder_no t.z vn vs t.ns d m w hn g.nod.asc g.nod.few hml hL
  | cons x r =>
    obtain ⟨hE, hd, hx, _, n, hm, hp, hlk, _, _⟩ := lin_node g.nod (x := x) (by rw [hL]; simp)
    rw [(hol_some hL hlk).1, (hol_some hL hlk).2, hE]
    obtain ⟨A, B, T⟩ := there_of_look g.nod.asc hlk
    have k := g.nod.ok n hm
    exact holder_at t.z vn vs t.ns A B n d m x r w hn g.nod.asc g.nod.few hml hE hL hd hx T (by have := goodB_le k.path; omega) (by have := k.data; omega)
end Go.Proofs.YtcplpbelficbeaaGreatDoor

namespace Go.Proofs.YtcplpbelficbeaaGreatDoor
open Go.RowKit

theorem ret_pick {a b : Int} (h : a = b) : Ending.returned (.int .i64 a) = .returned (.int .i64 b) := by rw [h]

theorem tmod_cases (k n : Int) (hn : 0 < n) : k.tmod n = k % n ∨ k.tmod n = k % n - n := by
  rw [Int.tmod_eq_emod]
  split
  · left; omega
  · right; omega

set_option maxRecDepth 10000 in
set_option maxHeartbeats 400000 in
theorem pick_any (k n : Int) (w : World) (hn : 0 < n) (hn1 : n ≤ 1048576) (hk : -9223372036854775808 ≤ k) (hk1 : k ≤ 9223372036854775807) :
    Calls Tryz.prog 9 #[.int .i64 k, .int .i64 n] w fun e w' => e = .returned (.int .i64 (k % n)) ∧ w' = w := by
  have hm1 := Int.emod_nonneg k (show n ≠ 0 by omega)
  have hm2 := Int.emod_lt_of_pos k hn
  by_cases h0 : 0 ≤ k
  · go_enter Tryz.func9, Tryz.ntmps9
    go_wp2
    go_ret
    exact ⟨rfl, rfl⟩
  · have HT := hide (tmod_cases k n hn)
    go_enter Tryz.func9, Tryz.ntmps9
    go_wp2
    all_goals go_ret
    all_goals refine ⟨ret_pick ?_, rfl⟩
    all_goals (have hT := unhide HT; clear HT; first | omega | (unfold wrap64; omega))

end Go.Proofs.YtcplpbelficbeaaGreatDoor

namespace Go.Proofs.YtcplpbelficbeaaGreatDoor
open Go.RowKit

instance layX : Lay WTxn := ⟨7, tcells, 32, fun _ => rfl, fun x u hu => tcells_one x u hu⟩
end Go.Proofs.YtcplpbelficbeaaGreatDoor

namespace Go.Proofs.YtcplpbelficbeaaGreatDoor
open Go.RowKit

theorem wpList_app1 {α : Type} [Lay α] {w : World} {ops : Array Oper} {rest : List Oper} {o : Oper} {a : Act} {Q : Exit → Act → World → Prop} (hgd : o.guard = none) (s x : Operand) (T : TypeId)
    (ho : o.op = .call { callee := .builtin .append, args := #[s, x], argTypes := #[T, T] })
    (i0 : TypeInfo) (z : Value) (bytes : Nat) (hU : Tryz.prog.underlying T = some (.slice (Lay.ty α))) (hi0 : Tryz.prog.info? (Lay.ty α) = some i0) (hz0 : i0.zero = some z) (hz1 : i0.size = Lay.k α) (hz2 : i0.bytes = bytes) (hzs : z.cells.size = Lay.k α) (hk0 : 0 < Lay.k α)
    (v : Value) (ns : List α) (hs : a.eval s = v) (B : Nat) (hown : OwnS w B v ns) (q : Nat) (hx : a.eval x = .slice (some ⟨q, 0, none⟩) 1 1) (t : α) (hnews : OneR w q t) (hl : (ns.length + 1) * bytes ≤ 140737488355328) (hm : ns.length + 1 ≤ maxLen) (hB : B ≤ w.heap.size)
    (h : ∀ a' c' w', OwnS w' B (.slice a' (ns.length + 1) c') (ns ++ [t]) → w.grownBy w' v.ownBlock → wpList Tryz.prog ops Q rest (a.put o.dst (.slice a' (ns.length + 1) c')) w') :
    wpList Tryz.prog ops Q (o :: rest) a w := by
  refine wpList_plain hgd fun K hK => ?_
  obtain ⟨v', w', hr, h2, h3, _⟩ := run_append_own (P := Tryz.prog) w B T o.type (Lay.ty α) i0 z (Lay.k α) bytes hU hi0 hz0 hz1 hz2 hzs hk0 v ns.length (cellsL ns) hown.row ⟨q, 0, none⟩ 1 1 (Lay.cs t) (by rw [Lay.len, Nat.one_mul]) (one_news hnews) (Lay.one t) hm hl hB
  have h2' : OwnS w' B v' (ns ++ [t]) := OwnS.of_row (by rw [List.length_append, cellsL_snoc]; exact h2)
  obtain ⟨a', c', rfl, _⟩ := h2'.slice
  rw [List.length_append, List.length_singleton] at h2' hr
  unfold Oper.wp execOp
  simp only [ho, resolve, invoke, builtin, Sem.run_bind, Sem.run_pure, Result.andThen_ok, List.map_toArray, List.map_cons, List.map_nil, hs, hx, hr]
  exact hK _ _ (h a' c' w' h2' h3)

theorem OwnS.apart {α β : Type} [Lay α] [Lay β] {W : World} {B C : Nat} {u v : Value} {xs : List α} {ys : List β} (h : OwnS W B u xs) (k : OwnS W C v ys) (hne : Lay.ty α ≠ Lay.ty β) : ∀ q, u.ownBlock = some q → some q ≠ v.ownBlock := by
  intro q hq e
  rcases h with ⟨rfl, rfl⟩ | ⟨g, cap, rfl, _, rest, h1, _⟩
  · simp [Value.ownBlock] at hq
  · rcases k with ⟨rfl, rfl⟩ | ⟨g', cap', rfl, _, rest', h1', _⟩
    · simp [Value.ownBlock] at e
    · simp only [Value.ownBlock, Option.some.injEq] at hq e
      subst hq e
      rw [h1] at h1'
      simp at h1'
      exact hne h1'.2
end Go.Proofs.YtcplpbelficbeaaGreatDoor

namespace Go.Proofs.YtcplpbelficbeaaGreatDoor
open Go.ChangeShapes Go.WideShapes Go.ChangeAt Go.RowKit Go.ChangeMaps

theorem zlaidOut : laidOutB Tryz.prog = true := by kernel_rfl
section
variable {H : Type} {enc : TypeId × Value → H} {W : World} {base : Nat} {spare : Nat → Bool} {held : Bool}
theorem zweightsAll_mem {e : TypeId} : ∀ (l : List (DataW H)) (d : DataW H) (x : Nat), d ∈ l → x ∈ DataW.weights Tryz.prog e d → x ∈ DataW.weightsAll Tryz.prog e l
  | d' :: r, d, x, h, hx => by
    rw [DataW.weightsAll]
    rcases List.mem_cons.1 h with rfl | h
    · exact List.mem_append.2 (.inl hx)
    · exact List.mem_append.2 (.inr (zweightsAll_mem r d x h hx))
set_option maxRecDepth 10000 in
/-- a slice of elements that are laid in a row, and what is known of each -/
theorem open_seqP {α : Type} [Lay α] (al : α) {T E : TypeId} (hU : Tryz.prog.underlying T = some (.slice E)) (hk : Tryz.prog.cellsOf E = Lay.k α) (hk0 : 0 < Lay.k α) {bytes : Nat} (hby : Tryz.prog.bytesOf E = bytes) (P : α → Prop) (Q : Nat → α → Prop)
    (ho : ∀ {n : Nat} {cs : List Value} {x : DataW H × List MemPlace}, cs.length = Lay.k α → DataW.trod enc Tryz.prog W base spare held n E cs = some x → ∃ f : α, cs = Lay.cs f ∧ P f ∧ ∀ M, (∀ y ∈ DataW.weights Tryz.prog E x.1, y ≤ M) → Q M f)
    {fuel : Nat} {v : Value} {y : DataW H × List MemPlace} (h : DataW.trod enc Tryz.prog W base spare held fuel T [v] = some y) :
    ∃ xs : List α, SeqV W v xs ∧ (∀ x ∈ xs, P x) ∧ ∀ M, (∀ x ∈ DataW.weights Tryz.prog T y.1, x ≤ M) → xs.length * bytes ≤ M ∧ ∀ x ∈ xs, Q M x := by
  rcases Go.Deep.open_slice hU h with ⟨h1, hx⟩ | ⟨a, len, cap, m, k, D, Pl, h1, hb, hl, hm, hmm, hx, hel⟩
  · simp only [List.cons.injEq, and_true] at h1
    rw [h1]
    exact ⟨[], SeqV.nil W, by simp, fun M _ => ⟨by simp, by simp⟩⟩
  · simp only [List.cons.injEq, and_true] at h1
    rw [h1]
    subst hx
    have hlm : len ≤ m := by rw [hmm]; split <;> omega
    have each : ∀ i, i < len → ∃ f : α, (∀ c, c < Lay.k α → W.cell? (a.add (i * Lay.k α + c)) = (Lay.cs f)[c]?) ∧ P f ∧ ∀ M, (∀ y ∈ DataW.weights Tryz.prog E (D i), y ≤ M) → Q M f := by
      intro i hi
      obtain ⟨cs', g1, g2⟩ := hel i (by omega)
      rw [hk] at g1
      obtain ⟨_, hlen, hcell⟩ := World.cells?_some g1
      obtain ⟨f, rfl, hp, hq⟩ := ho hlen g2
      refine ⟨f, fun c hc => ?_, hp, hq⟩
      have := hcell c hc
      rwa [Go.Deep.add_add] at this
    have : Inhabited α := ⟨al⟩
    obtain ⟨F, hF⟩ := Go.Deep.choose_lt each
    refine ⟨(List.range len).map F, ?_, ?_, ?_⟩
    · by_cases h0 : len = 0
      · subst h0
        exact .inl ⟨some a, cap, rfl, rfl, hm⟩
      · have c0 := (hF 0 (by omega)).1 0 hk0
        obtain ⟨y, hy⟩ : ∃ y, (Lay.cs (F 0))[0]? = some y := ⟨_, List.getElem?_eq_getElem (by rw [Lay.len]; exact hk0)⟩
        rw [hy] at c0
        obtain ⟨b, off, sp⟩ := a
        have hsp : sp = none := by
          cases sp with
          | none => rfl
          | some s => simp [World.cell?, Addr.add] at c0; split at c0 <;> simp at c0
        subst hsp
        have hblt : b < W.heap.size := World.block_lt_of_cell? W _ (show W.cell? ((⟨b, off, none⟩ : Addr).add (0 * Lay.k α + 0)) = some _ from c0) |> fun h => by simpa [Addr.add] using h
        refine .inr ⟨b, off, cap, by simp, by simpa using hl, hm, hblt, by simp; omega, fun j u hj => ?_⟩
        have hjl : j < len * Lay.k α := by
          have := (List.getElem?_eq_some_iff.1 hj).1
          rw [cellsL_length, List.length_map, List.length_range] at this
          exact this
        have hi : j / Lay.k α < len := Nat.div_lt_of_lt_mul (by rw [Nat.mul_comm]; exact hjl)
        have hm' : j % Lay.k α < Lay.k α := Nat.mod_lt _ hk0
        have hdm : j / Lay.k α * Lay.k α + j % Lay.k α = j := by rw [Nat.mul_comm]; exact Nat.div_add_mod j _
        have hg := cellsL_get ((List.range len).map F) (j / Lay.k α) (F (j / Lay.k α)) (by rw [List.getElem?_map, List.getElem?_range hi]; rfl) (j % Lay.k α) hm'
        rw [hdm, hj] at hg
        have := (hF (j / Lay.k α) hi).1 (j % Lay.k α) hm'
        rw [hdm, Addr.add_lit, ← hg] at this
        exact this
    · intro x hx
      obtain ⟨i, hi, rfl⟩ := List.mem_map.1 hx
      exact (hF i (by simpa using hi)).2.1
    · intro M hM
      have hw' : DataW.weights Tryz.prog T (.slice ((List.range len).map D) ((List.range (m - len)).map fun j => D (len + j)) : DataW H) =
          (len + (m - len)) * bytes :: (DataW.weightsAll Tryz.prog E ((List.range len).map D) ++ DataW.weightsAll Tryz.prog E ((List.range (m - len)).map fun j => D (len + j))) := by
        simp [DataW.weights, hU, hby]
      rw [hw'] at hM
      refine ⟨?_, fun f hf => ?_⟩
      · have := hM _ (List.mem_cons_self ..)
        simp only [List.length_map, List.length_range]
        exact Nat.le_trans (Nat.mul_le_mul_right _ (by omega)) this
      · obtain ⟨i, hi, rfl⟩ := List.mem_map.1 hf
        have hi' : i < len := by simpa using hi
        exact (hF i hi').2.2 M fun x hx => hM x (List.mem_cons_of_mem _ (List.mem_append.2 (.inl (zweightsAll_mem _ (D i) x (List.mem_map.2 ⟨i, hi, rfl⟩) hx))))
end
end Go.Proofs.YtcplpbelficbeaaGreatDoor

namespace Go.Proofs.YtcplpbelficbeaaGreatDoor
open Go.ChangeShapes Go.WideShapes Go.ChangeAt Go.RowKit Go.ChangeMaps

theorem icellsInt : Tryz.prog.cellsOf 3 = 1 := by kernel_rfl
theorem ibytesInt : Tryz.prog.bytesOf 3 = 8 := by kernel_rfl
section
variable {H : Type} {enc : TypeId × Value → H} {W : World} {base : Nat} {spare : Nat → Bool} {held : Bool}
theorem iopen_int {n : Nat} {cs : List Value} {x : DataW H × List MemPlace} (hl : cs.length = 1) (h : DataW.trod enc Tryz.prog W base spare held n 3 cs = some x) :
    ∃ f : Int, cs = [.int .i64 f] ∧ (-9223372036854775808 ≤ f ∧ f ≤ 9223372036854775807) ∧ ∀ M, (∀ y ∈ DataW.weights Tryz.prog 3 x.1, y ≤ M) → True := by
  match cs, hl with
  | [c0], _ =>
    obtain ⟨s, e0, _, hw⟩ := DataW.trod_int Tryz.underlying3 h
    exact ⟨s, e0, bounds_i64 hw, fun _ _ => trivial⟩
set_option maxRecDepth 10000 in
theorem open_wints {r : Reach} {b0 : Nat} {v : Value} {d : DataW H} {p : List MemPlace} (hv : Value.okWide Tryz.prog W r b0 22 v) (h : DataW.Trod enc Tryz.prog W base spare held 22 v d p) :
    ∃ is : List Int, SeqV W v is ∧ ∀ x ∈ is, -9223372036854775808 ≤ x ∧ x ≤ 9223372036854775807 := by
  obtain ⟨fuel, hf⟩ := h
  obtain ⟨sa, sl, sc, rfl⟩ := okWide_slice Tryz.underlying22 hv
  obtain ⟨is, h1, h2, _⟩ := open_seqP (0 : Int) Tryz.underlying22 icellsInt (by decide) ibytesInt (fun x => -9223372036854775808 ≤ x ∧ x ≤ 9223372036854775807) (fun _ _ => True) iopen_int (y := (d, p)) (show DataW.trod enc Tryz.prog W base spare held fuel 22 [.slice sa sl sc] = some (d, p) by simpa [Value.cells] using hf)
  exact ⟨is, h1, h2⟩
end
end Go.Proofs.YtcplpbelficbeaaGreatDoor
