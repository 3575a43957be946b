/-
  What wire.unfold answers, for every text: the walk.
  What aviaryref.Last and aviaryref.Scan answer: the walks.
-/
import Derived.Test.YthkggmmalffcdaaGreatDoorSFG
import Derived.Test.YthkggmmalffcdaaGreatDoorSFH
import Derived.Test.YthkggmmalffcdaaGreatDoorSFR
namespace Go.Proofs.YthkggmmalffcdaaGreatDoor
open Go.RowKit

/-- the seven cells of a transaction -/
def TxnAt (W : World) (g : Nat) (t : WTxn) : Prop := W.heap[g]? = some (.cells #[.int .i64 t.z, .int .i64 t.o, .int .i64 t.s, .string ⟨t.p.toArray⟩, .string ⟨t.d.toArray⟩, .int .i64 t.v, .int .i64 t.w] 48 (0, 0))
theorem TxnAt.c0 {W : World} {g : Nat} {t : WTxn} (h : TxnAt W g t) : W.cell? ⟨g, 0, none⟩ = some (.int .i64 t.z) := by unfold TxnAt at h; simp [World.cell?, h]
theorem TxnAt.c1 {W : World} {g : Nat} {t : WTxn} (h : TxnAt W g t) : W.cell? ⟨g, 1, none⟩ = some (.int .i64 t.o) := by unfold TxnAt at h; simp [World.cell?, h]
theorem TxnAt.c2 {W : World} {g : Nat} {t : WTxn} (h : TxnAt W g t) : W.cell? ⟨g, 2, none⟩ = some (.int .i64 t.s) := by unfold TxnAt at h; simp [World.cell?, h]
theorem TxnAt.c3 {W : World} {g : Nat} {t : WTxn} (h : TxnAt W g t) : W.cell? ⟨g, 3, none⟩ = some (.string ⟨t.p.toArray⟩) := by unfold TxnAt at h; simp [World.cell?, h]
theorem TxnAt.c4 {W : World} {g : Nat} {t : WTxn} (h : TxnAt W g t) : W.cell? ⟨g, 4, none⟩ = some (.string ⟨t.d.toArray⟩) := by unfold TxnAt at h; simp [World.cell?, h]
theorem TxnAt.c5 {W : World} {g : Nat} {t : WTxn} (h : TxnAt W g t) : W.cell? ⟨g, 5, none⟩ = some (.int .i64 t.v) := by unfold TxnAt at h; simp [World.cell?, h]
theorem TxnAt.c6 {W : World} {g : Nat} {t : WTxn} (h : TxnAt W g t) : W.cell? ⟨g, 6, none⟩ = some (.int .i64 t.w) := by unfold TxnAt at h; simp [World.cell?, h]
theorem TxnAt.f {W : World} {g : Nat} {t : WTxn} (h : TxnAt W g t) (j : Nat) : W.frozen? ⟨g, j, none⟩ = false := by unfold TxnAt at h; simp [World.frozen?, h]
theorem TxnAt.kept {W V : World} {g B : Nat} {t : WTxn} (h : TxnAt W g t) (hb : Below B W V) (hg : g < B) : TxnAt V g t := (hb.block _ hg).trans h
theorem TxnAt.other {W V : World} {g k : Nat} {t : WTxn} (h : TxnAt W g t) (ho : Only k W V) (hg : g ≠ k) : TxnAt V g t := (ho.block _ hg).trans h
theorem only_set (g : Nat) (w : World) (j : Nat) (v : Value) : Only g w (w.setCell ⟨g, j, none⟩ v) := (Only.refl g w).setCell j v

theorem heap_new (w : World) (o : Obj) : (w.alloc o).heap[w.heap.size]? = some o := by
  show (w.heap.push o)[w.heap.size]? = _
  simp
/-- how far unfold has come: the result's cells, the cursor, the transaction -/
structure Unf (w W : World) (r : List UInt8) (b : Bool) (t : WTxn) : Prop where
  res : TxnAt W w.heap.size t0
  cur : Cur W (w.heap.size + 1) r b
  txn : TxnAt W (w.heap.size + 1 + 1) t
  size : w.heap.size + 3 ≤ W.heap.size
  below : Below w.heap.size w W
theorem Unf.took {w W V : World} {r r' : List UInt8} {b b' : Bool} {t : WTxn} (h : Unf w W r b t) (hc : Cur V (w.heap.size + 1) r' b') (ho : Only (w.heap.size + 1) W V) : Unf w V r' b' t :=
  ⟨h.res.other ho (by omega), hc, h.txn.other ho (by omega), by rw [ho.size]; exact h.size, ho.below h.below (by omega)⟩
theorem Unf.kept {w W V : World} {r : List UInt8} {b : Bool} {t : WTxn} (h : Unf w W r b t) (hb : Below W.heap.size W V) : Unf w V r b t :=
  ⟨h.res.kept hb (by have := h.size; omega), h.cur.kept hb (by have := h.size; omega), h.txn.kept hb (by have := h.size; omega), Nat.le_trans h.size hb.size, h.below.trans (hb.mono h.below.size)⟩
theorem Unf.put {w W : World} {r : List UInt8} {b : Bool} {t : WTxn} (h : Unf w W r b t) (j : Nat) (v : Value) {t' : WTxn} (ht : TxnAt (W.setCell ⟨w.heap.size + 1 + 1, j, none⟩ v) (w.heap.size + 1 + 1) t') : Unf w (W.setCell ⟨w.heap.size + 1 + 1, j, none⟩ v) r b t' :=
  ⟨h.res.other (only_set _ _ _ _) (by omega), h.cur.other (only_set _ _ _ _) (by omega), ht, by rw [(only_set _ W j v).size]; exact h.size, (only_set _ _ _ _).below h.below (by omega)⟩
theorem Unf.z {w W : World} {r : List UInt8} {b : Bool} {t : WTxn} (h : Unf w W r b t) (x : Int) : Unf w (W.setCell ⟨w.heap.size + 1 + 1, 0, none⟩ (.int .i64 x)) r b { t with z := x } := h.put 0 _ (cur_set _ h.txn)
theorem Unf.o {w W : World} {r : List UInt8} {b : Bool} {t : WTxn} (h : Unf w W r b t) (x : Int) : Unf w (W.setCell ⟨w.heap.size + 1 + 1, 1, none⟩ (.int .i64 x)) r b { t with o := x } := h.put 1 _ (cur_set _ h.txn)
theorem Unf.s {w W : World} {r : List UInt8} {b : Bool} {t : WTxn} (h : Unf w W r b t) (x : Int) : Unf w (W.setCell ⟨w.heap.size + 1 + 1, 2, none⟩ (.int .i64 x)) r b { t with s := x } := h.put 2 _ (cur_set _ h.txn)
theorem Unf.p {w W : World} {r : List UInt8} {b : Bool} {t : WTxn} (h : Unf w W r b t) (x : List UInt8) : Unf w (W.setCell ⟨w.heap.size + 1 + 1, 3, none⟩ (.string ⟨x.toArray⟩)) r b { t with p := x } := h.put 3 _ (cur_set _ h.txn)
theorem Unf.d {w W : World} {r : List UInt8} {b : Bool} {t : WTxn} (h : Unf w W r b t) (x : List UInt8) : Unf w (W.setCell ⟨w.heap.size + 1 + 1, 4, none⟩ (.string ⟨x.toArray⟩)) r b { t with d := x } := h.put 4 _ (cur_set _ h.txn)
theorem Unf.v {w W : World} {r : List UInt8} {b : Bool} {t : WTxn} (h : Unf w W r b t) (x : Int) : Unf w (W.setCell ⟨w.heap.size + 1 + 1, 5, none⟩ (.int .i64 x)) r b { t with v := x } := h.put 5 _ (cur_set _ h.txn)
theorem Unf.w {w W : World} {r : List UInt8} {b : Bool} {t : WTxn} (h : Unf w W r b t) (x : Int) : Unf w (W.setCell ⟨w.heap.size + 1 + 1, 6, none⟩ (.int .i64 x)) r b { t with w := x } := h.put 6 _ (cur_set _ h.txn)

theorem wrap_un {l : List UInt8} (h : l.length ≤ 7) : wrap64 ((un l : Nat) : Int) = (un l : Nat) := by
  have := un_small h; unfold wrap64; omega
theorem un_take_le (l : List UInt8) (k : Nat) (hk : k ≤ 7) : wrap64 ((un (l.take k) : Nat) : Int) = (un (l.take k) : Nat) := wrap_un (by rw [List.length_take]; omega)
/-- a transaction stored whole -/
def putTxn (W : World) (g : Nat) (t : WTxn) : World :=
  ((((((W.setCell ⟨g, 0, none⟩ (.int .i64 t.z)).setCell ⟨g, 1, none⟩ (.int .i64 t.o)).setCell ⟨g, 2, none⟩ (.int .i64 t.s)).setCell ⟨g, 3, none⟩ (.string ⟨t.p.toArray⟩)).setCell ⟨g, 4, none⟩ (.string ⟨t.d.toArray⟩)).setCell ⟨g, 5, none⟩ (.int .i64 t.v)).setCell ⟨g, 6, none⟩ (.int .i64 t.w)
theorem TxnAt.s0 {W : World} {g : Nat} {t : WTxn} (h : TxnAt W g t) (x : Int) : TxnAt (W.setCell ⟨g, 0, none⟩ (.int .i64 x)) g { t with z := x } := cur_set _ h
theorem TxnAt.s1 {W : World} {g : Nat} {t : WTxn} (h : TxnAt W g t) (x : Int) : TxnAt (W.setCell ⟨g, 1, none⟩ (.int .i64 x)) g { t with o := x } := cur_set _ h
theorem TxnAt.s2 {W : World} {g : Nat} {t : WTxn} (h : TxnAt W g t) (x : Int) : TxnAt (W.setCell ⟨g, 2, none⟩ (.int .i64 x)) g { t with s := x } := cur_set _ h
theorem TxnAt.s3 {W : World} {g : Nat} {t : WTxn} (h : TxnAt W g t) (x : List UInt8) : TxnAt (W.setCell ⟨g, 3, none⟩ (.string ⟨x.toArray⟩)) g { t with p := x } := cur_set _ h
theorem TxnAt.s4 {W : World} {g : Nat} {t : WTxn} (h : TxnAt W g t) (x : List UInt8) : TxnAt (W.setCell ⟨g, 4, none⟩ (.string ⟨x.toArray⟩)) g { t with d := x } := cur_set _ h
theorem TxnAt.s5 {W : World} {g : Nat} {t : WTxn} (h : TxnAt W g t) (x : Int) : TxnAt (W.setCell ⟨g, 5, none⟩ (.int .i64 x)) g { t with v := x } := cur_set _ h
theorem TxnAt.s6 {W : World} {g : Nat} {t : WTxn} (h : TxnAt W g t) (x : Int) : TxnAt (W.setCell ⟨g, 6, none⟩ (.int .i64 x)) g { t with w := x } := cur_set _ h
theorem TxnAt.store {W : World} {g : Nat} {t : WTxn} (h : TxnAt W g t) (t' : WTxn) : TxnAt (putTxn W g t') g t' :=
  ((((((h.s0 t'.z).s1 t'.o).s2 t'.s).s3 t'.p).s4 t'.d).s5 t'.v).s6 t'.w
theorem only_put (W : World) (g : Nat) (t : WTxn) : Only g W (putTxn W g t) :=
  (((((((Only.refl g W).setCell 0 _).setCell 1 _).setCell 2 _).setCell 3 _).setCell 4 _).setCell 5 _).setCell 6 _
/-- was a piece wanted that is not there? -/
def lackB (b : List UInt8) : Bool :=
  false || decide (b.length < 8) || decide ((b.drop 8).length < 1) || decide ((b.drop 9).length < 4) || decide ((b.drop 13).length < 4) || decide ((b.drop 17).length < 4) || decide ((b.drop 21).length < 1) || decide ((b.drop 22).length < plOf b) || decide ((b.drop (22 + plOf b)).length < 2) || decide ((b.drop (24 + plOf b)).length < dlOf b)
theorem lackB_iff {b : List UInt8} : lackB b = false ↔ 24 + plOf b + dlOf b ≤ b.length := by
  simp only [lackB, Bool.or_eq_false_iff, decide_eq_false_iff_not, List.length_drop, true_and]
  omega
theorem plOf_le (b : List UInt8) : plOf b < 256 := by
  have h := un_lt ((b.drop 21).take 1)
  have h2 : ((b.drop 21).take 1).length ≤ 1 := List.length_take_le _ _
  have h3 : 256 ^ ((b.drop 21).take 1).length ≤ 256 ^ 1 := Nat.pow_le_pow_right (by decide) h2
  unfold plOf
  omega
theorem dlOf_le (b : List UInt8) : dlOf b < 65536 := by
  have h := un_lt ((b.drop (22 + plOf b)).take 2)
  have h2 : ((b.drop (22 + plOf b)).take 2).length ≤ 2 := List.length_take_le _ _
  have h3 : 256 ^ ((b.drop (22 + plOf b)).take 2).length ≤ 256 ^ 2 := Nat.pow_le_pow_right (by decide) h2
  unfold dlOf
  omega

/-- what the walk has laid down when it asks whether the lengths fit -/
def tIn (b : List UInt8) : WTxn :=
  ⟨wrap64 (un (b.take 8)), un ((b.drop 8).take 1), un ((b.drop 9).take 4), (b.drop 22).take (plOf b), (b.drop (24 + plOf b)).take (dlOf b), un ((b.drop 13).take 4), un ((b.drop 17).take 4)⟩
theorem tIn_fit {b : List UInt8} (h : fitB b = true) : tIn b = tOf b := by
  obtain ⟨h1, h2⟩ := fitB_iff.1 h
  rw [tIn, tOf, List.take_of_length_le (l := b.drop (24 + plOf b)) (by rw [List.length_drop]; omega)]

set_option maxRecDepth 10000 in
set_option maxHeartbeats 2000000 in
theorem unfold_any (b : List UInt8) (w : World) :
    Calls Tryz.prog 183 #[.string ⟨b.toArray⟩] w fun e w' => e = .returned (.tuple #[txnV (unfT b), .int .i64 (unfE b)]) ∧ Below w.heap.size w w' := by
  have hpl := plOf_le b
  have hdl := dlOf_le b
  go_enter Tryz.func183, Tryz.ntmps183
  go_wp2_with fail
  refine (along_any b _).mono ?_
  rintro e wA ⟨rfl, rfl⟩
  go_wp2_with fail
  generalize hW : ((w.alloc _).alloc _).alloc _ = W
  have H : Hid (Unf w W b false t0) := hide (by
    rw [← hW]
    refine ⟨?_, ?_, ?_, by simp, (((Below.refl _ _).alloc (Nat.le_refl _) _).alloc (by simp) _).alloc (by simp; omega) _⟩
    · exact (Below.heap_alloc _ _ _ (by simp; omega)).trans ((Below.heap_alloc _ _ _ (by simp)).trans (heap_new _ _))
    · exact (Below.heap_alloc _ _ _ (by simp)).trans (by have := heap_new (w.alloc (.cells #[.int .i64 0, .int .i64 0, .int .i64 0, .string ⟨#[]⟩, .string ⟨#[]⟩, .int .i64 0, .int .i64 0] 48)) (.cells #[.string ⟨b.toArray⟩, .bool false] 212); rwa [World.size_alloc] at this)
    · have := heap_new ((w.alloc (.cells #[.int .i64 0, .int .i64 0, .int .i64 0, .string ⟨#[]⟩, .string ⟨#[]⟩, .int .i64 0, .int .i64 0] 48)).alloc (.cells #[.string ⟨b.toArray⟩, .bool false] 212)) (.cells #[.int .i64 0, .int .i64 0, .int .i64 0, .string ⟨#[]⟩, .string ⟨#[]⟩, .int .i64 0, .int .i64 0] 48)
      rwa [World.size_alloc, World.size_alloc] at this)
  clear hW
  refine (cnumber_any (w.heap.size + 1) 8 _ _ _ (by decide) (unhide H).cur).mono ?_
  rintro e w1 ⟨rfl, hc1, ho1⟩
  have H1 := hide ((unhide H).took hc1 ho1)
  clear hc1 ho1 H W
  generalize w1 = W at *
  obtain ⟨x0, h0⟩ : ∃ x, wrap64 (un (b.take 8) : Nat) = x := ⟨_, rfl⟩
  rw [h0]
  have E0 := hide h0
  clear h0
  have q1 := (unhide H1).txn.c0
  have q2 := (unhide H1).txn.f 0
  go_wp2_with fail
  have H := hide ((unhide H1).z x0)
  clear q1 q2 H1
  generalize W.setCell _ _ = W at *
  refine (cnumber_any (w.heap.size + 1) 1 _ _ _ (by decide) (unhide H).cur).mono ?_
  rintro e w1 ⟨rfl, hc1, ho1⟩
  have H1 := hide ((unhide H).took hc1 ho1)
  clear hc1 ho1 H W
  generalize w1 = W at *
  simp only [List.drop_drop, Nat.reduceAdd] at H1
  rw [un_take_le _ _ (by decide)]
  obtain ⟨x1, h1⟩ : ∃ x, un ((b.drop 8).take 1) = x := ⟨_, rfl⟩
  rw [h1]
  have E1 := hide h1
  clear h1
  have q1 := (unhide H1).txn.c1
  have q2 := (unhide H1).txn.f 1
  go_wp2_with fail
  have H := hide ((unhide H1).o x1)
  clear q1 q2 H1
  generalize W.setCell _ _ = W at *
  refine (cnumber_any (w.heap.size + 1) 4 _ _ _ (by decide) (unhide H).cur).mono ?_
  rintro e w1 ⟨rfl, hc1, ho1⟩
  have H1 := hide ((unhide H).took hc1 ho1)
  clear hc1 ho1 H W
  generalize w1 = W at *
  simp only [List.drop_drop, Nat.reduceAdd] at H1
  rw [un_take_le _ _ (by decide)]
  obtain ⟨x2, h2⟩ : ∃ x, un ((b.drop 9).take 4) = x := ⟨_, rfl⟩
  rw [h2]
  have E2 := hide h2
  clear h2
  have q1 := (unhide H1).txn.c2
  have q2 := (unhide H1).txn.f 2
  go_wp2_with fail
  have H := hide ((unhide H1).s x2)
  clear q1 q2 H1
  generalize W.setCell _ _ = W at *
  refine (cnumber_any (w.heap.size + 1) 4 _ _ _ (by decide) (unhide H).cur).mono ?_
  rintro e w1 ⟨rfl, hc1, ho1⟩
  have H1 := hide ((unhide H).took hc1 ho1)
  clear hc1 ho1 H W
  generalize w1 = W at *
  simp only [List.drop_drop, Nat.reduceAdd] at H1
  rw [un_take_le _ _ (by decide)]
  obtain ⟨x3, h3⟩ : ∃ x, un ((b.drop 13).take 4) = x := ⟨_, rfl⟩
  rw [h3]
  have E3 := hide h3
  clear h3
  have q1 := (unhide H1).txn.c5
  have q2 := (unhide H1).txn.f 5
  go_wp2_with fail
  have H := hide ((unhide H1).v x3)
  clear q1 q2 H1
  generalize W.setCell _ _ = W at *
  refine (cnumber_any (w.heap.size + 1) 4 _ _ _ (by decide) (unhide H).cur).mono ?_
  rintro e w1 ⟨rfl, hc1, ho1⟩
  have H1 := hide ((unhide H).took hc1 ho1)
  clear hc1 ho1 H W
  generalize w1 = W at *
  simp only [List.drop_drop, Nat.reduceAdd] at H1
  rw [un_take_le _ _ (by decide)]
  obtain ⟨x4, h4⟩ : ∃ x, un ((b.drop 17).take 4) = x := ⟨_, rfl⟩
  rw [h4]
  have E4 := hide h4
  clear h4
  have q1 := (unhide H1).txn.c6
  have q2 := (unhide H1).txn.f 6
  go_wp2_with fail
  have H := hide ((unhide H1).w x4)
  clear q1 q2 H1
  generalize W.setCell _ _ = W at *
  refine (cnumber_any (w.heap.size + 1) 1 _ _ _ (by decide) (unhide H).cur).mono ?_
  rintro e w1 ⟨rfl, hc1, ho1⟩
  have H1 := hide ((unhide H).took hc1 ho1)
  clear hc1 ho1 H W
  generalize w1 = W at *
  simp only [List.drop_drop, Nat.reduceAdd] at H1
  rw [un_take_le _ _ (by decide)]
  rw [show un ((b.drop 21).take 1) = plOf b from rfl]
  go_wp2_with fail
  refine (text_any (w.heap.size + 1) (plOf b) _ _ _ (by omega) (unhide H1).cur).mono ?_
  rintro e w2 ⟨rfl, hc2, ho2⟩
  have H2 := hide ((unhide H1).took hc2 ho2)
  clear hc2 ho2 H1 W
  generalize w2 = W at *
  obtain ⟨P, hP⟩ : ∃ x, (b.drop 22).take (plOf b) = x := ⟨_, rfl⟩
  have lP : P.length ≤ 65536 := by rw [← hP, List.length_take]; omega
  rw [hP]
  have EP := hide hP
  clear hP
  go_wp2_with fail
  refine (clone_any ⟨P.toArray⟩ _ (by rw [Lib.size_eq]; show P.length ≤ _; omega)).mono ?_
  rintro e w3 ⟨rfl, hb3⟩
  have H1 := hide ((unhide H2).kept hb3)
  clear hb3 H2 W
  generalize w3 = W at *
  simp only [List.drop_drop] at H1
  have q1 := (unhide H1).txn.c3
  have q2 := (unhide H1).txn.f 3
  go_wp2_with fail
  have H := hide ((unhide H1).p P)
  clear q1 q2 H1
  generalize W.setCell _ _ = W at *
  refine (cnumber_any (w.heap.size + 1) 2 _ _ _ (by decide) (unhide H).cur).mono ?_
  rintro e w1 ⟨rfl, hc1, ho1⟩
  have H1 := hide ((unhide H).took hc1 ho1)
  clear hc1 ho1 H W
  generalize w1 = W at *
  simp only [List.drop_drop] at H1
  rw [un_take_le _ _ (by decide)]
  rw [show un ((b.drop (22 + plOf b)).take 2) = dlOf b from rfl]
  go_wp2_with fail
  refine (text_any (w.heap.size + 1) (dlOf b) _ _ _ (by omega) (unhide H1).cur).mono ?_
  rintro e w2 ⟨rfl, hc2, ho2⟩
  have H2 := hide ((unhide H1).took hc2 ho2)
  clear hc2 ho2 H1 W
  generalize w2 = W at *
  obtain ⟨D, hD⟩ : ∃ x, (b.drop (22 + plOf b + 2)).take (dlOf b) = x := ⟨_, rfl⟩
  have lD : D.length ≤ 65536 := by rw [← hD, List.length_take]; omega
  rw [hD]
  have ED := hide hD
  clear hD
  go_wp2_with fail
  refine (clone_any ⟨D.toArray⟩ _ (by rw [Lib.size_eq]; show D.length ≤ _; omega)).mono ?_
  rintro e w3 ⟨rfl, hb3⟩
  have H1 := hide ((unhide H2).kept hb3)
  clear hb3 H2 W
  generalize w3 = W at *
  simp only [List.drop_drop] at H1
  have hT : tIn b = ⟨x0, x1, x2, P, D, x3, x4⟩ := by
    rw [tIn, unhide E0, unhide E1, unhide E2, unhide E3, unhide E4, unhide EP, show 24 + plOf b = 22 + plOf b + 2 from by omega, unhide ED]
  have HT := hide hT
  have h24 : 22 + plOf b + 2 = 24 + plOf b := by omega
  have HL : Hid (Unf w W (b.drop (24 + plOf b + dlOf b)) (lackB b) ⟨x0, x1, x2, P, [], x3, x4⟩) := hide (by
    have h := unhide H1
    rw [h24] at h
    exact h)
  clear hT h24 H1 E0 E1 E2 E3 E4 EP ED
  have q0 : W.cell? ⟨w.heap.size + 1 + 1, 0, none⟩ = some (.int .i64 x0) := (unhide HL).txn.c0
  have q1 : W.cell? ⟨w.heap.size + 1 + 1, 1, none⟩ = some (.int .i64 x1) := (unhide HL).txn.c1
  have q2 : W.cell? ⟨w.heap.size + 1 + 1, 2, none⟩ = some (.int .i64 x2) := (unhide HL).txn.c2
  have q3 : W.cell? ⟨w.heap.size + 1 + 1, 3, none⟩ = some (.string ⟨P.toArray⟩) := (unhide HL).txn.c3
  have q4 : W.cell? ⟨w.heap.size + 1 + 1, 4, none⟩ = some (.string ⟨#[]⟩) := (unhide HL).txn.c4
  have q5 : W.cell? ⟨w.heap.size + 1 + 1, 5, none⟩ = some (.int .i64 x3) := (unhide HL).txn.c5
  have q6 : W.cell? ⟨w.heap.size + 1 + 1, 6, none⟩ = some (.int .i64 x4) := (unhide HL).txn.c6
  have qf := (unhide HL).txn.f 4
  have r0 : W.cell? ⟨w.heap.size, 0, none⟩ = some (.int .i64 0) := (unhide HL).res.c0
  have r1 : W.cell? ⟨w.heap.size, 1, none⟩ = some (.int .i64 0) := (unhide HL).res.c1
  have r2 : W.cell? ⟨w.heap.size, 2, none⟩ = some (.int .i64 0) := (unhide HL).res.c2
  have r3 : W.cell? ⟨w.heap.size, 3, none⟩ = some (.string ⟨#[]⟩) := (unhide HL).res.c3
  have r4 : W.cell? ⟨w.heap.size, 4, none⟩ = some (.string ⟨#[]⟩) := (unhide HL).res.c4
  have r5 : W.cell? ⟨w.heap.size, 5, none⟩ = some (.int .i64 0) := (unhide HL).res.c5
  have r6 : W.cell? ⟨w.heap.size, 6, none⟩ = some (.int .i64 0) := (unhide HL).res.c6
  have rf := (unhide HL).res.f
  have CSh := hide (short_any _ _ _ _ ((unhide HL).d D).cur)
  have CLf := hide (left_any _ _ _ _ ((unhide HL).d D).cur)
  cases hfit : fitB b
  · have HU := hide (unf_bad hfit)
    cases hl : lackB b
    · have hR : b.drop (24 + plOf b + dlOf b) ≠ [] := fun hh => by
        have h1 := lackB_iff.1 hl
        have h2 := congrArg List.length hh
        rw [List.length_drop, List.length_nil] at h2
        have h3 : fitB b = true := fitB_iff.2 ⟨by omega, by omega⟩
        rw [hfit] at h3
        exact absurd h3 (by decide)
      rw [hl] at CSh
      obtain ⟨R, hRR⟩ : ∃ R, b.drop (24 + plOf b + dlOf b) = R := ⟨_, rfl⟩
      rw [hRR] at CLf hR
      have hR' : (0 : Int) < (R.length : Int) := by have := List.length_pos_iff.2 hR; omega
      obtain ⟨m, hm⟩ : ∃ m, R.length = m := ⟨_, rfl⟩
      rw [hm] at CLf hR'
      clear hRR hl hfit hm hR
      go_wp2_with fail
      refine (unhide CSh).mono ?_
      rintro e wS ⟨rfl, rfl⟩
      go_wp2_with fail
      refine (unhide CLf).mono ?_
      rintro e wL ⟨rfl, rfl⟩
      clear CSh CLf
      go_wp2_with fail
      change bodyPost _ _ _ _ _ (putTxn (W.setCell ⟨w.heap.size + 1 + 1, 4, none⟩ (.string ⟨D.toArray⟩)) w.heap.size t0)
      have HV := hide ((unhide HL).d D)
      generalize W.setCell ⟨w.heap.size + 1 + 1, 4, none⟩ (.string ⟨D.toArray⟩) = V at HV ⊢
      have HP := hide ((unhide HV).res.store t0)
      have hB : Below w.heap.size w (putTxn V w.heap.size t0) := (only_put _ _ _).below (unhide HV).below (Nat.le_refl _)
      generalize putTxn V w.heap.size t0 = V2 at HP hB ⊢
      have s0 := (unhide HP).c0
      have s1 := (unhide HP).c1
      have s2 := (unhide HP).c2
      have s3 := (unhide HP).c3
      have s4 := (unhide HP).c4
      have s5 := (unhide HP).c5
      have s6 := (unhide HP).c6
      exact bodyPost_ret (v := .tuple #[txnV t0, .int .i64 2]) (by simp [results, Tryz.results183, go_sem, s0, s1, s2, s3, s4, s5, s6, txnV]) rfl ⟨by rw [(unhide HU).1, (unhide HU).2], hB⟩
    · rw [hl] at CSh
      clear hl hfit CLf
      go_wp2_with fail
      refine (unhide CSh).mono ?_
      rintro e wS ⟨rfl, rfl⟩
      clear CSh
      go_wp2_with fail
      change bodyPost _ _ _ _ _ (putTxn (W.setCell ⟨w.heap.size + 1 + 1, 4, none⟩ (.string ⟨D.toArray⟩)) w.heap.size t0)
      have HV := hide ((unhide HL).d D)
      generalize W.setCell ⟨w.heap.size + 1 + 1, 4, none⟩ (.string ⟨D.toArray⟩) = V at HV ⊢
      have HP := hide ((unhide HV).res.store t0)
      have hB : Below w.heap.size w (putTxn V w.heap.size t0) := (only_put _ _ _).below (unhide HV).below (Nat.le_refl _)
      generalize putTxn V w.heap.size t0 = V2 at HP hB ⊢
      have s0 := (unhide HP).c0
      have s1 := (unhide HP).c1
      have s2 := (unhide HP).c2
      have s3 := (unhide HP).c3
      have s4 := (unhide HP).c4
      have s5 := (unhide HP).c5
      have s6 := (unhide HP).c6
      exact bodyPost_ret (v := .tuple #[txnV t0, .int .i64 2]) (by simp [results, Tryz.results183, go_sem, s0, s1, s2, s3, s4, s5, s6, txnV]) rfl ⟨by rw [(unhide HU).1, (unhide HU).2], hB⟩
  · have hl : lackB b = false := lackB_iff.2 (by have := fitB_iff.1 hfit; omega)
    have hR : b.drop (24 + plOf b + dlOf b) = [] := List.drop_of_length_le (by have := fitB_iff.1 hfit; omega)
    rw [hl] at CSh
    rw [hR] at CLf
    rw [tIn_fit hfit] at HT
    have Hfit := hide hfit
    clear hl hR hfit
    cases hg : (gdE (tOf b) == 0)
    · have hg' : gdE (tOf b) ≠ 0 := by simpa using hg
      have HU := hide (unf_no (unhide Hfit) hg')
      obtain ⟨E, hE⟩ : ∃ E, gdE (tOf b) = E := ⟨_, rfl⟩
      have hne : (E != 0) = true := by rw [← hE]; simp [bne, hg]
      rw [unhide HT] at hE
      rw [unhide HT] at HU
      have HE := hide hE
      clear hE hg hg'
      go_wp2_with fail
      refine (unhide CSh).mono ?_
      rintro e wS ⟨rfl, rfl⟩
      go_wp2_with fail
      refine (unhide CLf).mono ?_
      rintro e wL ⟨rfl, rfl⟩
      clear CSh CLf
      go_wp2_with fail
      refine (wgood_any ⟨x0, x1, x2, P, D, x3, x4⟩ _ (by show D.length ≤ _; omega)).mono ?_
      rintro e w4 ⟨rfl, hb4⟩
      rw [unhide HE]
      have HV0 := hide ((unhide HL).d D)
      have HV := hide ((unhide HV0).kept hb4)
      clear hb4 HV0 HL q0 q1 q2 q3 q4 q5 q6 qf r0 r1 r2 r3 r4 r5 r6 rf
      generalize w4 = V at *
      have r0 : V.cell? ⟨w.heap.size, 0, none⟩ = some (.int .i64 0) := (unhide HV).res.c0
      have r1 : V.cell? ⟨w.heap.size, 1, none⟩ = some (.int .i64 0) := (unhide HV).res.c1
      have r2 : V.cell? ⟨w.heap.size, 2, none⟩ = some (.int .i64 0) := (unhide HV).res.c2
      have r3 : V.cell? ⟨w.heap.size, 3, none⟩ = some (.string ⟨#[]⟩) := (unhide HV).res.c3
      have r4 : V.cell? ⟨w.heap.size, 4, none⟩ = some (.string ⟨#[]⟩) := (unhide HV).res.c4
      have r5 : V.cell? ⟨w.heap.size, 5, none⟩ = some (.int .i64 0) := (unhide HV).res.c5
      have r6 : V.cell? ⟨w.heap.size, 6, none⟩ = some (.int .i64 0) := (unhide HV).res.c6
      have rf := (unhide HV).res.f
      go_wp2_with fail
      change bodyPost _ _ _ _ _ (putTxn V w.heap.size t0)
      have HP := hide ((unhide HV).res.store t0)
      have hB : Below w.heap.size w (putTxn V w.heap.size t0) := (only_put _ _ _).below (unhide HV).below (Nat.le_refl _)
      generalize putTxn V w.heap.size t0 = V2 at HP hB ⊢
      have s0 := (unhide HP).c0
      have s1 := (unhide HP).c1
      have s2 := (unhide HP).c2
      have s3 := (unhide HP).c3
      have s4 := (unhide HP).c4
      have s5 := (unhide HP).c5
      have s6 := (unhide HP).c6
      exact bodyPost_ret (v := .tuple #[txnV t0, .int .i64 E]) (by simp [results, Tryz.results183, go_sem, s0, s1, s2, s3, s4, s5, s6, txnV]) rfl ⟨by rw [(unhide HU).1, (unhide HU).2, unhide HE], hB⟩
    · have hg' : gdE (tOf b) = 0 := by simpa using hg
      have HU := hide (unf_ok (unhide Hfit) hg')
      rw [unhide HT] at hg' HU
      have HE := hide hg'
      clear hg hg'
      go_wp2_with fail
      refine (unhide CSh).mono ?_
      rintro e wS ⟨rfl, rfl⟩
      go_wp2_with fail
      refine (unhide CLf).mono ?_
      rintro e wL ⟨rfl, rfl⟩
      clear CSh CLf
      go_wp2_with fail
      refine (wgood_any ⟨x0, x1, x2, P, D, x3, x4⟩ _ (by show D.length ≤ _; omega)).mono ?_
      rintro e w4 ⟨rfl, hb4⟩
      rw [unhide HE]
      have HV0 := hide ((unhide HL).d D)
      have HV := hide ((unhide HV0).kept hb4)
      clear hb4 HV0 HL q0 q1 q2 q3 q4 q5 q6 qf r0 r1 r2 r3 r4 r5 r6 rf
      generalize w4 = V at *
      have q0 : V.cell? ⟨w.heap.size + 1 + 1, 0, none⟩ = some (.int .i64 x0) := (unhide HV).txn.c0
      have q1 : V.cell? ⟨w.heap.size + 1 + 1, 1, none⟩ = some (.int .i64 x1) := (unhide HV).txn.c1
      have q2 : V.cell? ⟨w.heap.size + 1 + 1, 2, none⟩ = some (.int .i64 x2) := (unhide HV).txn.c2
      have q3 : V.cell? ⟨w.heap.size + 1 + 1, 3, none⟩ = some (.string ⟨P.toArray⟩) := (unhide HV).txn.c3
      have q4 : V.cell? ⟨w.heap.size + 1 + 1, 4, none⟩ = some (.string ⟨D.toArray⟩) := (unhide HV).txn.c4
      have q5 : V.cell? ⟨w.heap.size + 1 + 1, 5, none⟩ = some (.int .i64 x3) := (unhide HV).txn.c5
      have q6 : V.cell? ⟨w.heap.size + 1 + 1, 6, none⟩ = some (.int .i64 x4) := (unhide HV).txn.c6
      have r0 : V.cell? ⟨w.heap.size, 0, none⟩ = some (.int .i64 0) := (unhide HV).res.c0
      have r1 : V.cell? ⟨w.heap.size, 1, none⟩ = some (.int .i64 0) := (unhide HV).res.c1
      have r2 : V.cell? ⟨w.heap.size, 2, none⟩ = some (.int .i64 0) := (unhide HV).res.c2
      have r3 : V.cell? ⟨w.heap.size, 3, none⟩ = some (.string ⟨#[]⟩) := (unhide HV).res.c3
      have r4 : V.cell? ⟨w.heap.size, 4, none⟩ = some (.string ⟨#[]⟩) := (unhide HV).res.c4
      have r5 : V.cell? ⟨w.heap.size, 5, none⟩ = some (.int .i64 0) := (unhide HV).res.c5
      have r6 : V.cell? ⟨w.heap.size, 6, none⟩ = some (.int .i64 0) := (unhide HV).res.c6
      have rf := (unhide HV).res.f
      go_wp2_with fail
      change bodyPost _ _ _ _ _ (putTxn V w.heap.size ⟨x0, x1, x2, P, D, x3, x4⟩)
      have HP := hide ((unhide HV).res.store ⟨x0, x1, x2, P, D, x3, x4⟩)
      have hB : Below w.heap.size w (putTxn V w.heap.size ⟨x0, x1, x2, P, D, x3, x4⟩) := (only_put _ _ _).below (unhide HV).below (Nat.le_refl _)
      generalize putTxn V w.heap.size ⟨x0, x1, x2, P, D, x3, x4⟩ = V2 at HP hB ⊢
      have s0 := (unhide HP).c0
      have s1 := (unhide HP).c1
      have s2 := (unhide HP).c2
      have s3 := (unhide HP).c3
      have s4 := (unhide HP).c4
      have s5 := (unhide HP).c5
      have s6 := (unhide HP).c6
      exact bodyPost_ret (v := .tuple #[txnV ⟨x0, x1, x2, P, D, x3, x4⟩, .int .i64 0]) (by simp [results, Tryz.results183, go_sem, s0, s1, s2, s3, s4, s5, s6, txnV]) rfl ⟨by rw [(unhide HU).1, (unhide HU).2], hB⟩

end Go.Proofs.YthkggmmalffcdaaGreatDoor

namespace Go.Proofs.YthkggmmalffcdaaGreatDoor
open Go.RowKit

/-- what aviaryref.Decode does -/
def RDecOk : Prop := ∀ (s : List UInt8) (w : World), s.length ≤ 1048576 →
    Calls Tryz.prog 166 #[.string ⟨s.toArray⟩] w fun e w' => e = .returned (.tuple #[txnV (decT s), .int .i64 (decN s), .int .i64 (decE s)]) ∧ Below w.heap.size w w'
/-- what stands at each round of aviaryref.Scan -/
structure RSc (w W : World) (g : Nat) (v : Value) (ts : List WTxn) : Prop where
  below : Below w.heap.size w W
  own : OwnL W (g + 1) v ts
  at_ : ∃ t, TxnAt W g t
  le : w.heap.size ≤ g
theorem RSc.next {w W V : World} {g : Nat} {v : Value} {ts : List WTxn} (h : RSc w W g v ts) (hb : Below W.heap.size W V) : RSc w V g v ts := by
  obtain ⟨t, ht⟩ := h.at_
  exact ⟨below_next2 h.below hb, h.own.next hb, ⟨t, ht.kept hb (by unfold TxnAt at ht; exact (Array.getElem?_eq_some_iff.1 ht).1)⟩, h.le⟩
theorem OwnL.other {W V : World} {B g : Nat} {v : Value} {ts : List WTxn} (h : OwnL W B v ts) (ho : Only g W V) (hg : g < B) : OwnL V B v ts := by
  obtain ⟨hl, h | ⟨q, cap, cur, e, hB, hq, hr⟩⟩ := h
  · exact ⟨hl, .inl h⟩
  · exact ⟨hl, .inr ⟨q, cap, cur, e, hB, (ho.block _ (by omega)).trans hq, hr⟩⟩
theorem RSc.put {w W : World} {g : Nat} {v : Value} {ts : List WTxn} (h : RSc w W g v ts) (t : WTxn) : RSc w (putTxn W g t) g v ts ∧ TxnAt (putTxn W g t) g t := by
  obtain ⟨t', ht⟩ := h.at_
  exact ⟨⟨(only_put W g t).below h.below h.le, h.own.other (only_put W g t) (Nat.lt_succ_self g), ⟨t, ht.store t⟩, h.le⟩, ht.store t⟩
end Go.Proofs.YthkggmmalffcdaaGreatDoor
