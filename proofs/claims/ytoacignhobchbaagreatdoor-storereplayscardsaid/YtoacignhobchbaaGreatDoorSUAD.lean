/-
  aviaryref's GoodTree: the walk.
-/
import Derived.Test.YtoacignhobchbaaGreatDoorSUAC
import Derived.Test.YtoacignhobchbaaGreatDoorSUAA
import Derived.Test.YtoacignhobchbaaGreatDoorSUJ
import Derived.Deep.QuietTactic
import Derived.BigQuiet
import Derived.Deep.Cut
import Derived.Deep.CutRange
import Derived.Lib.QuietBelow
namespace Go.Proofs.YtoacignhobchbaaGreatDoor
open Go.RowKit

/-- a tree's box -/
structure GT (w W : World) (z : Int) (vn vs : Value) : Prop where
  t : W.heap[w.heap.size]? = some (.cells #[.int .i64 z, vn, vs] 34 (0, 0))
  b : Below w.heap.size w W
theorem GT.new (w : World) (z : Int) (vn vs : Value) : GT w (w.alloc (.cells #[.int .i64 z, vn, vs] 34)) z vn vs := ⟨heap_alloc_new w _, allocB _ _⟩
theorem GT.lt {w W : World} {z : Int} {vn vs : Value} (h : GT w W z vn vs) : w.heap.size < W.heap.size := (Array.getElem?_eq_some_iff.1 h.t).1
theorem GT.next {w W V : World} {z : Int} {vn vs : Value} (h : GT w W z vn vs) (hb : Below W.heap.size W V) : GT w V z vn vs := ⟨(hb.block _ h.lt).trans h.t, nnext h.b hb⟩
theorem GT.cells {w W : World} {z : Int} {vn vs : Value} (h : GT w W z vn vs) : W.cell? ⟨w.heap.size, 0, none⟩ = some (.int .i64 z) ∧ W.cell? ⟨w.heap.size, 1, none⟩ = some vn ∧ W.cell? ⟨w.heap.size, 2, none⟩ = some vs := by
  have h1 := h.t
  refine ⟨?_, ?_, ?_⟩ <;> simp [World.cell?, h1]
/-- how far the parents are told -/
def dirsK (ns : List Nd) (k : Nat) : List (List UInt8) := (ns.take k).map (fun n => dirOf n.p) ++ List.replicate (ns.length - k) []
/-- what loop 3's round reads: the tree's box, the parents, the nodes, the node's box -/
structure Loo (w wr W : World) (b off cap D : Nat) (sa : Option Addr) (sc : Nat) (t : Tr) (n : Nd) : Prop where
  g : GT w W t.z (.slice (some ⟨b, off, none⟩) t.ns.length cap) (.slice sa t.ss.length sc)
  d : OwnR W D t.ns.length (dirsK t.ns t.ns.length)
  r : RowAt W b off (cellsL t.ns)
  n : OneR W wr.heap.size n
  bl : b < wr.heap.size
theorem Loo.new {w wr : World} {b off cap D : Nat} {sa : Option Addr} {sc : Nat} {t : Tr} {n : Nd} (hT : GT w wr t.z (.slice (some ⟨b, off, none⟩) t.ns.length cap) (.slice sa t.ss.length sc)) (hD : OwnR wr D t.ns.length (dirsK t.ns t.ns.length)) (hr : RowAt wr b off (cellsL t.ns)) (hb : b < wr.heap.size) : Loo w wr (wr.alloc (.cells #[.string ⟨n.p.toArray⟩, .string ⟨n.d.toArray⟩, .int .i64 n.c, .int .i64 n.m, .int .i64 n.q, .int .i64 n.v, .int .i64 n.k, .int .i64 n.o, .int .i64 n.n] 70)) b off cap D sa sc t n :=
  ⟨hT.next (allocB _ _), hD.next (allocB _ _), hr.kept (allocB _ _) hb, one_newN wr n, hb⟩
theorem Loo.next {w wr W V : World} {b off cap D : Nat} {sa : Option Addr} {sc : Nat} {t : Tr} {n : Nd} (h : Loo w wr W b off cap D sa sc t n) (hb : Below W.heap.size W V) : Loo w wr V b off cap D sa sc t n := by
  have h1 : wr.heap.size < W.heap.size := (Array.getElem?_eq_some_iff.1 (show W.heap[wr.heap.size]? = _ from h.n)).1
  exact ⟨h.g.next hb, h.d.next hb, h.r.kept hb (Nat.lt_trans h.bl h1), h.n.keptN hb, h.bl⟩

end Go.Proofs.YtoacignhobchbaaGreatDoor
