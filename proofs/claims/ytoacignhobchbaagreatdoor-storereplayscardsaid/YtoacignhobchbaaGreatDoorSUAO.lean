/-
  What zxid.Text answers, for every number: the walk.
  What store.Remember and aviaryref.Remember answer: the walks.
  What wire.unfold answers, for every text: the walk.
  What aviaryref.Last and aviaryref.Scan answer: the walks.
-/
import Derived.Test.YtoacignhobchbaaGreatDoorSUAG
import Derived.Test.YtoacignhobchbaaGreatDoorSUQ
import Derived.Test.YtoacignhobchbaaGreatDoorShelf
import Derived.Lib.ItoaMem
import Derived.WalkSmall
import Derived.Test.YtoacignhobchbaaGreatDoorSUAH
import Derived.Test.YtoacignhobchbaaGreatDoorSUAI
import Derived.Test.YtoacignhobchbaaGreatDoorSUJ
import Derived.Test.YtoacignhobchbaaGreatDoorSUK
import Derived.Deep.LoopGhost
namespace Go.Proofs.YtoacignhobchbaaGreatDoor
open Go.RowKit
theorem zgPow : Tryz.prog.globalNamed "internal/strconv.uint64pow10" = some 3 := by kernel_rfl
theorem ztab_lt {w : World} (htab : Lib.TabIs Tryz.prog w "internal/strconv.uint64pow10" .u64 Lib.pow10Tab) : 3 < w.heap.size := by
  have hc := htab.cell zgPow 0 (by decide)
  unfold World.cell? at hc
  cases ho : w.heap[3]? with
  | none => simp [ho] at hc
  | some o => exact (Array.getElem?_eq_some_iff.1 ho).1
theorem ztab_kept {w w' : World} (htab : Lib.TabIs Tryz.prog w "internal/strconv.uint64pow10" .u64 Lib.pow10Tab) (hb : Below w.heap.size w w') : Lib.TabIs Tryz.prog w' "internal/strconv.uint64pow10" .u64 Lib.pow10Tab :=
  var?_below hb zgPow (ztab_lt htab) htab

end Go.Proofs.YtoacignhobchbaaGreatDoor

namespace Go.Proofs.YtoacignhobchbaaGreatDoor
open Go.RowKit

/-- the table that numbers are written by lies as Go's library lays it -/
def TabP (W : World) : Prop := Lib.TabIs Tryz.prog W "internal/strconv.uint64pow10" .u64 Lib.pow10Tab
theorem TabP.next {w w' : World} (h : TabP w) (hb : Below w.heap.size w w') : TabP w' := ztab_kept h hb
end Go.Proofs.YtoacignhobchbaaGreatDoor

namespace Go.Proofs.YtoacignhobchbaaGreatDoor
open Go.RowKit

/-- the seven cells of a transaction -/
def TxnAt (W : World) (g : Nat) (t : WTxn) : Prop := W.heap[g]? = some (.cells #[.int .i64 t.z, .int .i64 t.o, .int .i64 t.s, .string ⟨t.p.toArray⟩, .string ⟨t.d.toArray⟩, .int .i64 t.v, .int .i64 t.w] 53 (0, 0))
theorem TxnAt.c0 {W : World} {g : Nat} {t : WTxn} (h : TxnAt W g t) : W.cell? ⟨g, 0, none⟩ = some (.int .i64 t.z) := by unfold TxnAt at h; simp [World.cell?, h]
theorem TxnAt.c1 {W : World} {g : Nat} {t : WTxn} (h : TxnAt W g t) : W.cell? ⟨g, 1, none⟩ = some (.int .i64 t.o) := by unfold TxnAt at h; simp [World.cell?, h]
theorem TxnAt.c2 {W : World} {g : Nat} {t : WTxn} (h : TxnAt W g t) : W.cell? ⟨g, 2, none⟩ = some (.int .i64 t.s) := by unfold TxnAt at h; simp [World.cell?, h]
theorem TxnAt.c3 {W : World} {g : Nat} {t : WTxn} (h : TxnAt W g t) : W.cell? ⟨g, 3, none⟩ = some (.string ⟨t.p.toArray⟩) := by unfold TxnAt at h; simp [World.cell?, h]
theorem TxnAt.c4 {W : World} {g : Nat} {t : WTxn} (h : TxnAt W g t) : W.cell? ⟨g, 4, none⟩ = some (.string ⟨t.d.toArray⟩) := by unfold TxnAt at h; simp [World.cell?, h]
theorem TxnAt.c5 {W : World} {g : Nat} {t : WTxn} (h : TxnAt W g t) : W.cell? ⟨g, 5, none⟩ = some (.int .i64 t.v) := by unfold TxnAt at h; simp [World.cell?, h]
theorem TxnAt.c6 {W : World} {g : Nat} {t : WTxn} (h : TxnAt W g t) : W.cell? ⟨g, 6, none⟩ = some (.int .i64 t.w) := by unfold TxnAt at h; simp [World.cell?, h]
theorem TxnAt.f {W : World} {g : Nat} {t : WTxn} (h : TxnAt W g t) (j : Nat) : W.frozen? ⟨g, j, none⟩ = false := by unfold TxnAt at h; simp [World.frozen?, h]
theorem TxnAt.kept {W V : World} {g B : Nat} {t : WTxn} (h : TxnAt W g t) (hb : Below B W V) (hg : g < B) : TxnAt V g t := (hb.block _ hg).trans h
theorem TxnAt.other {W V : World} {g k : Nat} {t : WTxn} (h : TxnAt W g t) (ho : Only k W V) (hg : g ≠ k) : TxnAt V g t := (ho.block _ hg).trans h
theorem only_set (g : Nat) (w : World) (j : Nat) (v : Value) : Only g w (w.setCell ⟨g, j, none⟩ v) := (Only.refl g w).setCell j v

theorem heap_new (w : World) (o : Obj) : (w.alloc o).heap[w.heap.size]? = some o := by
  show (w.heap.push o)[w.heap.size]? = _
  simp
/-- how far unfold has come: the result's cells, the cursor, the transaction -/
structure Unf (w W : World) (r : List UInt8) (b : Bool) (t : WTxn) : Prop where
  res : TxnAt W w.heap.size t0
  cur : Cur W (w.heap.size + 1) r b
  txn : TxnAt W (w.heap.size + 1 + 1) t
  size : w.heap.size + 3 ≤ W.heap.size
  below : Below w.heap.size w W
theorem Unf.took {w W V : World} {r r' : List UInt8} {b b' : Bool} {t : WTxn} (h : Unf w W r b t) (hc : Cur V (w.heap.size + 1) r' b') (ho : Only (w.heap.size + 1) W V) : Unf w V r' b' t :=
  ⟨h.res.other ho (by omega), hc, h.txn.other ho (by omega), by rw [ho.size]; exact h.size, ho.below h.below (by omega)⟩
theorem Unf.kept {w W V : World} {r : List UInt8} {b : Bool} {t : WTxn} (h : Unf w W r b t) (hb : Below W.heap.size W V) : Unf w V r b t :=
  ⟨h.res.kept hb (by have := h.size; omega), h.cur.kept hb (by have := h.size; omega), h.txn.kept hb (by have := h.size; omega), Nat.le_trans h.size hb.size, h.below.trans (hb.mono h.below.size)⟩
theorem Unf.put {w W : World} {r : List UInt8} {b : Bool} {t : WTxn} (h : Unf w W r b t) (j : Nat) (v : Value) {t' : WTxn} (ht : TxnAt (W.setCell ⟨w.heap.size + 1 + 1, j, none⟩ v) (w.heap.size + 1 + 1) t') : Unf w (W.setCell ⟨w.heap.size + 1 + 1, j, none⟩ v) r b t' :=
  ⟨h.res.other (only_set _ _ _ _) (by omega), h.cur.other (only_set _ _ _ _) (by omega), ht, by rw [(only_set _ W j v).size]; exact h.size, (only_set _ _ _ _).below h.below (by omega)⟩
theorem Unf.z {w W : World} {r : List UInt8} {b : Bool} {t : WTxn} (h : Unf w W r b t) (x : Int) : Unf w (W.setCell ⟨w.heap.size + 1 + 1, 0, none⟩ (.int .i64 x)) r b { t with z := x } := h.put 0 _ (cur_set _ h.txn)
theorem Unf.o {w W : World} {r : List UInt8} {b : Bool} {t : WTxn} (h : Unf w W r b t) (x : Int) : Unf w (W.setCell ⟨w.heap.size + 1 + 1, 1, none⟩ (.int .i64 x)) r b { t with o := x } := h.put 1 _ (cur_set _ h.txn)
theorem Unf.s {w W : World} {r : List UInt8} {b : Bool} {t : WTxn} (h : Unf w W r b t) (x : Int) : Unf w (W.setCell ⟨w.heap.size + 1 + 1, 2, none⟩ (.int .i64 x)) r b { t with s := x } := h.put 2 _ (cur_set _ h.txn)
theorem Unf.p {w W : World} {r : List UInt8} {b : Bool} {t : WTxn} (h : Unf w W r b t) (x : List UInt8) : Unf w (W.setCell ⟨w.heap.size + 1 + 1, 3, none⟩ (.string ⟨x.toArray⟩)) r b { t with p := x } := h.put 3 _ (cur_set _ h.txn)
theorem Unf.d {w W : World} {r : List UInt8} {b : Bool} {t : WTxn} (h : Unf w W r b t) (x : List UInt8) : Unf w (W.setCell ⟨w.heap.size + 1 + 1, 4, none⟩ (.string ⟨x.toArray⟩)) r b { t with d := x } := h.put 4 _ (cur_set _ h.txn)
theorem Unf.v {w W : World} {r : List UInt8} {b : Bool} {t : WTxn} (h : Unf w W r b t) (x : Int) : Unf w (W.setCell ⟨w.heap.size + 1 + 1, 5, none⟩ (.int .i64 x)) r b { t with v := x } := h.put 5 _ (cur_set _ h.txn)
theorem Unf.w {w W : World} {r : List UInt8} {b : Bool} {t : WTxn} (h : Unf w W r b t) (x : Int) : Unf w (W.setCell ⟨w.heap.size + 1 + 1, 6, none⟩ (.int .i64 x)) r b { t with w := x } := h.put 6 _ (cur_set _ h.txn)

/-- a transaction stored whole -/
def putTxn (W : World) (g : Nat) (t : WTxn) : World :=
  ((((((W.setCell ⟨g, 0, none⟩ (.int .i64 t.z)).setCell ⟨g, 1, none⟩ (.int .i64 t.o)).setCell ⟨g, 2, none⟩ (.int .i64 t.s)).setCell ⟨g, 3, none⟩ (.string ⟨t.p.toArray⟩)).setCell ⟨g, 4, none⟩ (.string ⟨t.d.toArray⟩)).setCell ⟨g, 5, none⟩ (.int .i64 t.v)).setCell ⟨g, 6, none⟩ (.int .i64 t.w)
theorem TxnAt.s0 {W : World} {g : Nat} {t : WTxn} (h : TxnAt W g t) (x : Int) : TxnAt (W.setCell ⟨g, 0, none⟩ (.int .i64 x)) g { t with z := x } := cur_set _ h
theorem TxnAt.s1 {W : World} {g : Nat} {t : WTxn} (h : TxnAt W g t) (x : Int) : TxnAt (W.setCell ⟨g, 1, none⟩ (.int .i64 x)) g { t with o := x } := cur_set _ h
theorem TxnAt.s2 {W : World} {g : Nat} {t : WTxn} (h : TxnAt W g t) (x : Int) : TxnAt (W.setCell ⟨g, 2, none⟩ (.int .i64 x)) g { t with s := x } := cur_set _ h
theorem TxnAt.s3 {W : World} {g : Nat} {t : WTxn} (h : TxnAt W g t) (x : List UInt8) : TxnAt (W.setCell ⟨g, 3, none⟩ (.string ⟨x.toArray⟩)) g { t with p := x } := cur_set _ h
theorem TxnAt.s4 {W : World} {g : Nat} {t : WTxn} (h : TxnAt W g t) (x : List UInt8) : TxnAt (W.setCell ⟨g, 4, none⟩ (.string ⟨x.toArray⟩)) g { t with d := x } := cur_set _ h
theorem TxnAt.s5 {W : World} {g : Nat} {t : WTxn} (h : TxnAt W g t) (x : Int) : TxnAt (W.setCell ⟨g, 5, none⟩ (.int .i64 x)) g { t with v := x } := cur_set _ h
theorem TxnAt.s6 {W : World} {g : Nat} {t : WTxn} (h : TxnAt W g t) (x : Int) : TxnAt (W.setCell ⟨g, 6, none⟩ (.int .i64 x)) g { t with w := x } := cur_set _ h
theorem TxnAt.store {W : World} {g : Nat} {t : WTxn} (h : TxnAt W g t) (t' : WTxn) : TxnAt (putTxn W g t') g t' :=
  ((((((h.s0 t'.z).s1 t'.o).s2 t'.s).s3 t'.p).s4 t'.d).s5 t'.v).s6 t'.w
theorem only_put (W : World) (g : Nat) (t : WTxn) : Only g W (putTxn W g t) :=
  (((((((Only.refl g W).setCell 0 _).setCell 1 _).setCell 2 _).setCell 3 _).setCell 4 _).setCell 5 _).setCell 6 _
end Go.Proofs.YtoacignhobchbaaGreatDoor

namespace Go.Proofs.YtoacignhobchbaaGreatDoor
open Go.RowKit
/-- what stands at each round of aviaryref.Scan -/
structure RSc (w W : World) (g : Nat) (v : Value) (ts : List WTxn) : Prop where
  below : Below w.heap.size w W
  own : OwnL W (g + 1) v ts
  at_ : ∃ t, TxnAt W g t
  le : w.heap.size ≤ g
theorem RSc.next {w W V : World} {g : Nat} {v : Value} {ts : List WTxn} (h : RSc w W g v ts) (hb : Below W.heap.size W V) : RSc w V g v ts := by
  obtain ⟨t, ht⟩ := h.at_
  exact ⟨below_next2 h.below hb, h.own.next hb, ⟨t, ht.kept hb (by unfold TxnAt at ht; exact (Array.getElem?_eq_some_iff.1 ht).1)⟩, h.le⟩
theorem OwnL.other {W V : World} {B g : Nat} {v : Value} {ts : List WTxn} (h : OwnL W B v ts) (ho : Only g W V) (hg : g < B) : OwnL V B v ts := by
  obtain ⟨hl, h | ⟨q, cap, cur, e, hB, hq, hr⟩⟩ := h
  · exact ⟨hl, .inl h⟩
  · exact ⟨hl, .inr ⟨q, cap, cur, e, hB, (ho.block _ (by omega)).trans hq, hr⟩⟩
theorem RSc.put {w W : World} {g : Nat} {v : Value} {ts : List WTxn} (h : RSc w W g v ts) (t : WTxn) : RSc w (putTxn W g t) g v ts ∧ TxnAt (putTxn W g t) g t := by
  obtain ⟨t', ht⟩ := h.at_
  exact ⟨⟨(only_put W g t).below h.below h.le, h.own.other (only_put W g t) (Nat.lt_succ_self g), ⟨t, ht.store t⟩, h.le⟩, ht.store t⟩
end Go.Proofs.YtoacignhobchbaaGreatDoor
