/-
  What wire.unfold answers, for every text: the walk.
  What wire.Decode answers, for every text: the walk.
  What wire.Decode answers of a text that has a record's form: the walk.
  What wal.Recover answers of every disk; what wal.upTo answers.
  What aviaryref.Last and aviaryref.Scan answer: the walks.
  What aviaryref.Scan answers, over what aviaryref.Decode does: the walk.
  What aviarykeep's own functions answer: opening, writes.
  What aviaryref.GoodTxn answers: the walk.
  What aviaryref.GoodTxn answers of what has a path: the walks.
  What aviaryref.GoodTxn answers of what has a path: the walks.
-/
import Derived.Test.YtaoflcmeiaffjaaGreatDoorSH
import Derived.Test.YtaoflcmeiaffjaaGreatDoorSI
import Derived.Test.YtaoflcmeiaffjaaGreatDoorSM
import Derived.Test.YtaoflcmeiaffjaaGreatDoorSO
import Derived.Deep.QuietTactic
import Derived.BigQuiet
namespace Go.Proofs.YtaoflcmeiaffjaaGreatDoor
open Go.RowKit

/-- the seven cells of a transaction -/
def TxnAt (W : World) (g : Nat) (t : WTxn) : Prop := W.heap[g]? = some (.cells #[.int .i64 t.z, .int .i64 t.o, .int .i64 t.s, .string ⟨t.p.toArray⟩, .string ⟨t.d.toArray⟩, .int .i64 t.v, .int .i64 t.w] 47 (0, 0))
theorem TxnAt.c0 {W : World} {g : Nat} {t : WTxn} (h : TxnAt W g t) : W.cell? ⟨g, 0, none⟩ = some (.int .i64 t.z) := by unfold TxnAt at h; simp [World.cell?, h]
theorem TxnAt.c1 {W : World} {g : Nat} {t : WTxn} (h : TxnAt W g t) : W.cell? ⟨g, 1, none⟩ = some (.int .i64 t.o) := by unfold TxnAt at h; simp [World.cell?, h]
theorem TxnAt.c2 {W : World} {g : Nat} {t : WTxn} (h : TxnAt W g t) : W.cell? ⟨g, 2, none⟩ = some (.int .i64 t.s) := by unfold TxnAt at h; simp [World.cell?, h]
theorem TxnAt.c3 {W : World} {g : Nat} {t : WTxn} (h : TxnAt W g t) : W.cell? ⟨g, 3, none⟩ = some (.string ⟨t.p.toArray⟩) := by unfold TxnAt at h; simp [World.cell?, h]
theorem TxnAt.c4 {W : World} {g : Nat} {t : WTxn} (h : TxnAt W g t) : W.cell? ⟨g, 4, none⟩ = some (.string ⟨t.d.toArray⟩) := by unfold TxnAt at h; simp [World.cell?, h]
theorem TxnAt.c5 {W : World} {g : Nat} {t : WTxn} (h : TxnAt W g t) : W.cell? ⟨g, 5, none⟩ = some (.int .i64 t.v) := by unfold TxnAt at h; simp [World.cell?, h]
theorem TxnAt.c6 {W : World} {g : Nat} {t : WTxn} (h : TxnAt W g t) : W.cell? ⟨g, 6, none⟩ = some (.int .i64 t.w) := by unfold TxnAt at h; simp [World.cell?, h]
theorem TxnAt.f {W : World} {g : Nat} {t : WTxn} (h : TxnAt W g t) (j : Nat) : W.frozen? ⟨g, j, none⟩ = false := by unfold TxnAt at h; simp [World.frozen?, h]
theorem TxnAt.kept {W V : World} {g B : Nat} {t : WTxn} (h : TxnAt W g t) (hb : Below B W V) (hg : g < B) : TxnAt V g t := (hb.block _ hg).trans h
theorem TxnAt.other {W V : World} {g k : Nat} {t : WTxn} (h : TxnAt W g t) (ho : Only k W V) (hg : g ≠ k) : TxnAt V g t := (ho.block _ hg).trans h
theorem only_set (g : Nat) (w : World) (j : Nat) (v : Value) : Only g w (w.setCell ⟨g, j, none⟩ v) := (Only.refl g w).setCell j v

theorem heap_new (w : World) (o : Obj) : (w.alloc o).heap[w.heap.size]? = some o := by
  show (w.heap.push o)[w.heap.size]? = _
  simp
/-- how far unfold has come: the result's cells, the cursor, the transaction -/
structure Unf (w W : World) (r : List UInt8) (b : Bool) (t : WTxn) : Prop where
  res : TxnAt W w.heap.size t0
  cur : Cur W (w.heap.size + 1) r b
  txn : TxnAt W (w.heap.size + 1 + 1) t
  size : w.heap.size + 3 ≤ W.heap.size
  below : Below w.heap.size w W
theorem Unf.took {w W V : World} {r r' : List UInt8} {b b' : Bool} {t : WTxn} (h : Unf w W r b t) (hc : Cur V (w.heap.size + 1) r' b') (ho : Only (w.heap.size + 1) W V) : Unf w V r' b' t :=
  ⟨h.res.other ho (by omega), hc, h.txn.other ho (by omega), by rw [ho.size]; exact h.size, ho.below h.below (by omega)⟩
theorem Unf.kept {w W V : World} {r : List UInt8} {b : Bool} {t : WTxn} (h : Unf w W r b t) (hb : Below W.heap.size W V) : Unf w V r b t :=
  ⟨h.res.kept hb (by have := h.size; omega), h.cur.kept hb (by have := h.size; omega), h.txn.kept hb (by have := h.size; omega), Nat.le_trans h.size hb.size, h.below.trans (hb.mono h.below.size)⟩
theorem Unf.put {w W : World} {r : List UInt8} {b : Bool} {t : WTxn} (h : Unf w W r b t) (j : Nat) (v : Value) {t' : WTxn} (ht : TxnAt (W.setCell ⟨w.heap.size + 1 + 1, j, none⟩ v) (w.heap.size + 1 + 1) t') : Unf w (W.setCell ⟨w.heap.size + 1 + 1, j, none⟩ v) r b t' :=
  ⟨h.res.other (only_set _ _ _ _) (by omega), h.cur.other (only_set _ _ _ _) (by omega), ht, by rw [(only_set _ W j v).size]; exact h.size, (only_set _ _ _ _).below h.below (by omega)⟩
theorem Unf.z {w W : World} {r : List UInt8} {b : Bool} {t : WTxn} (h : Unf w W r b t) (x : Int) : Unf w (W.setCell ⟨w.heap.size + 1 + 1, 0, none⟩ (.int .i64 x)) r b { t with z := x } := h.put 0 _ (cur_set _ h.txn)
theorem Unf.o {w W : World} {r : List UInt8} {b : Bool} {t : WTxn} (h : Unf w W r b t) (x : Int) : Unf w (W.setCell ⟨w.heap.size + 1 + 1, 1, none⟩ (.int .i64 x)) r b { t with o := x } := h.put 1 _ (cur_set _ h.txn)
theorem Unf.s {w W : World} {r : List UInt8} {b : Bool} {t : WTxn} (h : Unf w W r b t) (x : Int) : Unf w (W.setCell ⟨w.heap.size + 1 + 1, 2, none⟩ (.int .i64 x)) r b { t with s := x } := h.put 2 _ (cur_set _ h.txn)
theorem Unf.p {w W : World} {r : List UInt8} {b : Bool} {t : WTxn} (h : Unf w W r b t) (x : List UInt8) : Unf w (W.setCell ⟨w.heap.size + 1 + 1, 3, none⟩ (.string ⟨x.toArray⟩)) r b { t with p := x } := h.put 3 _ (cur_set _ h.txn)
theorem Unf.d {w W : World} {r : List UInt8} {b : Bool} {t : WTxn} (h : Unf w W r b t) (x : List UInt8) : Unf w (W.setCell ⟨w.heap.size + 1 + 1, 4, none⟩ (.string ⟨x.toArray⟩)) r b { t with d := x } := h.put 4 _ (cur_set _ h.txn)
theorem Unf.v {w W : World} {r : List UInt8} {b : Bool} {t : WTxn} (h : Unf w W r b t) (x : Int) : Unf w (W.setCell ⟨w.heap.size + 1 + 1, 5, none⟩ (.int .i64 x)) r b { t with v := x } := h.put 5 _ (cur_set _ h.txn)
theorem Unf.w {w W : World} {r : List UInt8} {b : Bool} {t : WTxn} (h : Unf w W r b t) (x : Int) : Unf w (W.setCell ⟨w.heap.size + 1 + 1, 6, none⟩ (.int .i64 x)) r b { t with w := x } := h.put 6 _ (cur_set _ h.txn)

theorem wrap_un {l : List UInt8} (h : l.length ≤ 7) : wrap64 ((un l : Nat) : Int) = (un l : Nat) := by
  have := un_small h; unfold wrap64; omega
theorem un_take_le (l : List UInt8) (k : Nat) (hk : k ≤ 7) : wrap64 ((un (l.take k) : Nat) : Int) = (un (l.take k) : Nat) := wrap_un (by rw [List.length_take]; omega)
/-- a transaction stored whole -/
def putTxn (W : World) (g : Nat) (t : WTxn) : World :=
  ((((((W.setCell ⟨g, 0, none⟩ (.int .i64 t.z)).setCell ⟨g, 1, none⟩ (.int .i64 t.o)).setCell ⟨g, 2, none⟩ (.int .i64 t.s)).setCell ⟨g, 3, none⟩ (.string ⟨t.p.toArray⟩)).setCell ⟨g, 4, none⟩ (.string ⟨t.d.toArray⟩)).setCell ⟨g, 5, none⟩ (.int .i64 t.v)).setCell ⟨g, 6, none⟩ (.int .i64 t.w)
theorem TxnAt.s0 {W : World} {g : Nat} {t : WTxn} (h : TxnAt W g t) (x : Int) : TxnAt (W.setCell ⟨g, 0, none⟩ (.int .i64 x)) g { t with z := x } := cur_set _ h
theorem TxnAt.s1 {W : World} {g : Nat} {t : WTxn} (h : TxnAt W g t) (x : Int) : TxnAt (W.setCell ⟨g, 1, none⟩ (.int .i64 x)) g { t with o := x } := cur_set _ h
theorem TxnAt.s2 {W : World} {g : Nat} {t : WTxn} (h : TxnAt W g t) (x : Int) : TxnAt (W.setCell ⟨g, 2, none⟩ (.int .i64 x)) g { t with s := x } := cur_set _ h
theorem TxnAt.s3 {W : World} {g : Nat} {t : WTxn} (h : TxnAt W g t) (x : List UInt8) : TxnAt (W.setCell ⟨g, 3, none⟩ (.string ⟨x.toArray⟩)) g { t with p := x } := cur_set _ h
theorem TxnAt.s4 {W : World} {g : Nat} {t : WTxn} (h : TxnAt W g t) (x : List UInt8) : TxnAt (W.setCell ⟨g, 4, none⟩ (.string ⟨x.toArray⟩)) g { t with d := x } := cur_set _ h
theorem TxnAt.s5 {W : World} {g : Nat} {t : WTxn} (h : TxnAt W g t) (x : Int) : TxnAt (W.setCell ⟨g, 5, none⟩ (.int .i64 x)) g { t with v := x } := cur_set _ h
theorem TxnAt.s6 {W : World} {g : Nat} {t : WTxn} (h : TxnAt W g t) (x : Int) : TxnAt (W.setCell ⟨g, 6, none⟩ (.int .i64 x)) g { t with w := x } := cur_set _ h
theorem TxnAt.store {W : World} {g : Nat} {t : WTxn} (h : TxnAt W g t) (t' : WTxn) : TxnAt (putTxn W g t') g t' :=
  ((((((h.s0 t'.z).s1 t'.o).s2 t'.s).s3 t'.p).s4 t'.d).s5 t'.v).s6 t'.w
theorem only_put (W : World) (g : Nat) (t : WTxn) : Only g W (putTxn W g t) :=
  (((((((Only.refl g W).setCell 0 _).setCell 1 _).setCell 2 _).setCell 3 _).setCell 4 _).setCell 5 _).setCell 6 _
/-- was a piece wanted that is not there? -/
def lackB (b : List UInt8) : Bool :=
  false || decide (b.length < 8) || decide ((b.drop 8).length < 1) || decide ((b.drop 9).length < 4) || decide ((b.drop 13).length < 4) || decide ((b.drop 17).length < 4) || decide ((b.drop 21).length < 1) || decide ((b.drop 22).length < plOf b) || decide ((b.drop (22 + plOf b)).length < 2) || decide ((b.drop (24 + plOf b)).length < dlOf b)
theorem lackB_iff {b : List UInt8} : lackB b = false ↔ 24 + plOf b + dlOf b ≤ b.length := by
  simp only [lackB, Bool.or_eq_false_iff, decide_eq_false_iff_not, List.length_drop, true_and]
  omega
theorem plOf_le (b : List UInt8) : plOf b < 256 := by
  have h := un_lt ((b.drop 21).take 1)
  have h2 : ((b.drop 21).take 1).length ≤ 1 := List.length_take_le _ _
  have h3 : 256 ^ ((b.drop 21).take 1).length ≤ 256 ^ 1 := Nat.pow_le_pow_right (by decide) h2
  unfold plOf
  omega
theorem dlOf_le (b : List UInt8) : dlOf b < 65536 := by
  have h := un_lt ((b.drop (22 + plOf b)).take 2)
  have h2 : ((b.drop (22 + plOf b)).take 2).length ≤ 2 := List.length_take_le _ _
  have h3 : 256 ^ ((b.drop (22 + plOf b)).take 2).length ≤ 256 ^ 2 := Nat.pow_le_pow_right (by decide) h2
  unfold dlOf
  omega

/-- what the walk has laid down when it asks whether the lengths fit -/
def tIn (b : List UInt8) : WTxn :=
  ⟨wrap64 (un (b.take 8)), un ((b.drop 8).take 1), un ((b.drop 9).take 4), (b.drop 22).take (plOf b), (b.drop (24 + plOf b)).take (dlOf b), un ((b.drop 13).take 4), un ((b.drop 17).take 4)⟩
theorem tIn_fit {b : List UInt8} (h : fitB b = true) : tIn b = tOf b := by
  obtain ⟨h1, h2⟩ := fitB_iff.1 h
  rw [tIn, tOf, List.take_of_length_le (l := b.drop (24 + plOf b)) (by rw [List.length_drop]; omega)]

set_option maxRecDepth 10000 in
set_option maxHeartbeats 2000000 in
theorem unfold_any (b : List UInt8) (w : World) :
    Calls Tryz.prog 167 #[.string ⟨b.toArray⟩] w fun e w' => e = .returned (.tuple #[txnV (unfT b), .int .i64 (unfE b)]) ∧ Below w.heap.size w w' := by
  have hpl := plOf_le b
  have hdl := dlOf_le b
  go_enter Tryz.func167, Tryz.ntmps167
  go_wp2_with fail
  refine (along_any b _).mono ?_
  rintro e wA ⟨rfl, rfl⟩
  go_wp2_with fail
  generalize hW : ((w.alloc _).alloc _).alloc _ = W
  have H : Hid (Unf w W b false t0) := hide (by
    rw [← hW]
    refine ⟨?_, ?_, ?_, by simp, (((Below.refl _ _).alloc (Nat.le_refl _) _).alloc (by simp) _).alloc (by simp; omega) _⟩
    · exact (Below.heap_alloc _ _ _ (by simp; omega)).trans ((Below.heap_alloc _ _ _ (by simp)).trans (heap_new _ _))
    · exact (Below.heap_alloc _ _ _ (by simp)).trans (by have := heap_new (w.alloc (.cells #[.int .i64 0, .int .i64 0, .int .i64 0, .string ⟨#[]⟩, .string ⟨#[]⟩, .int .i64 0, .int .i64 0] 47)) (.cells #[.string ⟨b.toArray⟩, .bool false] 204); rwa [World.size_alloc] at this)
    · have := heap_new ((w.alloc (.cells #[.int .i64 0, .int .i64 0, .int .i64 0, .string ⟨#[]⟩, .string ⟨#[]⟩, .int .i64 0, .int .i64 0] 47)).alloc (.cells #[.string ⟨b.toArray⟩, .bool false] 204)) (.cells #[.int .i64 0, .int .i64 0, .int .i64 0, .string ⟨#[]⟩, .string ⟨#[]⟩, .int .i64 0, .int .i64 0] 47)
      rwa [World.size_alloc, World.size_alloc] at this)
  clear hW
  refine (cnumber_any (w.heap.size + 1) 8 _ _ _ (by decide) (unhide H).cur).mono ?_
  rintro e w1 ⟨rfl, hc1, ho1⟩
  have H1 := hide ((unhide H).took hc1 ho1)
  clear hc1 ho1 H W
  generalize w1 = W at *
  obtain ⟨x0, h0⟩ : ∃ x, wrap64 (un (b.take 8) : Nat) = x := ⟨_, rfl⟩
  rw [h0]
  have E0 := hide h0
  clear h0
  have q1 := (unhide H1).txn.c0
  have q2 := (unhide H1).txn.f 0
  go_wp2_with fail
  have H := hide ((unhide H1).z x0)
  clear q1 q2 H1
  generalize W.setCell _ _ = W at *
  refine (cnumber_any (w.heap.size + 1) 1 _ _ _ (by decide) (unhide H).cur).mono ?_
  rintro e w1 ⟨rfl, hc1, ho1⟩
  have H1 := hide ((unhide H).took hc1 ho1)
  clear hc1 ho1 H W
  generalize w1 = W at *
  simp only [List.drop_drop, Nat.reduceAdd] at H1
  rw [un_take_le _ _ (by decide)]
  obtain ⟨x1, h1⟩ : ∃ x, un ((b.drop 8).take 1) = x := ⟨_, rfl⟩
  rw [h1]
  have E1 := hide h1
  clear h1
  have q1 := (unhide H1).txn.c1
  have q2 := (unhide H1).txn.f 1
  go_wp2_with fail
  have H := hide ((unhide H1).o x1)
  clear q1 q2 H1
  generalize W.setCell _ _ = W at *
  refine (cnumber_any (w.heap.size + 1) 4 _ _ _ (by decide) (unhide H).cur).mono ?_
  rintro e w1 ⟨rfl, hc1, ho1⟩
  have H1 := hide ((unhide H).took hc1 ho1)
  clear hc1 ho1 H W
  generalize w1 = W at *
  simp only [List.drop_drop, Nat.reduceAdd] at H1
  rw [un_take_le _ _ (by decide)]
  obtain ⟨x2, h2⟩ : ∃ x, un ((b.drop 9).take 4) = x := ⟨_, rfl⟩
  rw [h2]
  have E2 := hide h2
  clear h2
  have q1 := (unhide H1).txn.c2
  have q2 := (unhide H1).txn.f 2
  go_wp2_with fail
  have H := hide ((unhide H1).s x2)
  clear q1 q2 H1
  generalize W.setCell _ _ = W at *
  refine (cnumber_any (w.heap.size + 1) 4 _ _ _ (by decide) (unhide H).cur).mono ?_
  rintro e w1 ⟨rfl, hc1, ho1⟩
  have H1 := hide ((unhide H).took hc1 ho1)
  clear hc1 ho1 H W
  generalize w1 = W at *
  simp only [List.drop_drop, Nat.reduceAdd] at H1
  rw [un_take_le _ _ (by decide)]
  obtain ⟨x3, h3⟩ : ∃ x, un ((b.drop 13).take 4) = x := ⟨_, rfl⟩
  rw [h3]
  have E3 := hide h3
  clear h3
  have q1 := (unhide H1).txn.c5
  have q2 := (unhide H1).txn.f 5
  go_wp2_with fail
  have H := hide ((unhide H1).v x3)
  clear q1 q2 H1
  generalize W.setCell _ _ = W at *
  refine (cnumber_any (w.heap.size + 1) 4 _ _ _ (by decide) (unhide H).cur).mono ?_
  rintro e w1 ⟨rfl, hc1, ho1⟩
  have H1 := hide ((unhide H).took hc1 ho1)
  clear hc1 ho1 H W
  generalize w1 = W at *
  simp only [List.drop_drop, Nat.reduceAdd] at H1
  rw [un_take_le _ _ (by decide)]
  obtain ⟨x4, h4⟩ : ∃ x, un ((b.drop 17).take 4) = x := ⟨_, rfl⟩
  rw [h4]
  have E4 := hide h4
  clear h4
  have q1 := (unhide H1).txn.c6
  have q2 := (unhide H1).txn.f 6
  go_wp2_with fail
  have H := hide ((unhide H1).w x4)
  clear q1 q2 H1
  generalize W.setCell _ _ = W at *
  refine (cnumber_any (w.heap.size + 1) 1 _ _ _ (by decide) (unhide H).cur).mono ?_
  rintro e w1 ⟨rfl, hc1, ho1⟩
  have H1 := hide ((unhide H).took hc1 ho1)
  clear hc1 ho1 H W
  generalize w1 = W at *
  simp only [List.drop_drop, Nat.reduceAdd] at H1
  rw [un_take_le _ _ (by decide)]
  rw [show un ((b.drop 21).take 1) = plOf b from rfl]
  go_wp2_with fail
  refine (text_any (w.heap.size + 1) (plOf b) _ _ _ (by omega) (unhide H1).cur).mono ?_
  rintro e w2 ⟨rfl, hc2, ho2⟩
  have H2 := hide ((unhide H1).took hc2 ho2)
  clear hc2 ho2 H1 W
  generalize w2 = W at *
  obtain ⟨P, hP⟩ : ∃ x, (b.drop 22).take (plOf b) = x := ⟨_, rfl⟩
  have lP : P.length ≤ 65536 := by rw [← hP, List.length_take]; omega
  rw [hP]
  have EP := hide hP
  clear hP
  go_wp2_with fail
  refine (clone_any ⟨P.toArray⟩ _ (by rw [Lib.size_eq]; show P.length ≤ _; omega)).mono ?_
  rintro e w3 ⟨rfl, hb3⟩
  have H1 := hide ((unhide H2).kept hb3)
  clear hb3 H2 W
  generalize w3 = W at *
  simp only [List.drop_drop] at H1
  have q1 := (unhide H1).txn.c3
  have q2 := (unhide H1).txn.f 3
  go_wp2_with fail
  have H := hide ((unhide H1).p P)
  clear q1 q2 H1
  generalize W.setCell _ _ = W at *
  refine (cnumber_any (w.heap.size + 1) 2 _ _ _ (by decide) (unhide H).cur).mono ?_
  rintro e w1 ⟨rfl, hc1, ho1⟩
  have H1 := hide ((unhide H).took hc1 ho1)
  clear hc1 ho1 H W
  generalize w1 = W at *
  simp only [List.drop_drop] at H1
  rw [un_take_le _ _ (by decide)]
  rw [show un ((b.drop (22 + plOf b)).take 2) = dlOf b from rfl]
  go_wp2_with fail
  refine (text_any (w.heap.size + 1) (dlOf b) _ _ _ (by omega) (unhide H1).cur).mono ?_
  rintro e w2 ⟨rfl, hc2, ho2⟩
  have H2 := hide ((unhide H1).took hc2 ho2)
  clear hc2 ho2 H1 W
  generalize w2 = W at *
  obtain ⟨D, hD⟩ : ∃ x, (b.drop (22 + plOf b + 2)).take (dlOf b) = x := ⟨_, rfl⟩
  have lD : D.length ≤ 65536 := by rw [← hD, List.length_take]; omega
  rw [hD]
  have ED := hide hD
  clear hD
  go_wp2_with fail
  refine (clone_any ⟨D.toArray⟩ _ (by rw [Lib.size_eq]; show D.length ≤ _; omega)).mono ?_
  rintro e w3 ⟨rfl, hb3⟩
  have H1 := hide ((unhide H2).kept hb3)
  clear hb3 H2 W
  generalize w3 = W at *
  simp only [List.drop_drop] at H1
  have hT : tIn b = ⟨x0, x1, x2, P, D, x3, x4⟩ := by
    rw [tIn, unhide E0, unhide E1, unhide E2, unhide E3, unhide E4, unhide EP, show 24 + plOf b = 22 + plOf b + 2 from by omega, unhide ED]
  have HT := hide hT
  have h24 : 22 + plOf b + 2 = 24 + plOf b := by omega
  have HL : Hid (Unf w W (b.drop (24 + plOf b + dlOf b)) (lackB b) ⟨x0, x1, x2, P, [], x3, x4⟩) := hide (by
    have h := unhide H1
    rw [h24] at h
    exact h)
  clear hT h24 H1 E0 E1 E2 E3 E4 EP ED
  have q0 : W.cell? ⟨w.heap.size + 1 + 1, 0, none⟩ = some (.int .i64 x0) := (unhide HL).txn.c0
  have q1 : W.cell? ⟨w.heap.size + 1 + 1, 1, none⟩ = some (.int .i64 x1) := (unhide HL).txn.c1
  have q2 : W.cell? ⟨w.heap.size + 1 + 1, 2, none⟩ = some (.int .i64 x2) := (unhide HL).txn.c2
  have q3 : W.cell? ⟨w.heap.size + 1 + 1, 3, none⟩ = some (.string ⟨P.toArray⟩) := (unhide HL).txn.c3
  have q4 : W.cell? ⟨w.heap.size + 1 + 1, 4, none⟩ = some (.string ⟨#[]⟩) := (unhide HL).txn.c4
  have q5 : W.cell? ⟨w.heap.size + 1 + 1, 5, none⟩ = some (.int .i64 x3) := (unhide HL).txn.c5
  have q6 : W.cell? ⟨w.heap.size + 1 + 1, 6, none⟩ = some (.int .i64 x4) := (unhide HL).txn.c6
  have qf := (unhide HL).txn.f 4
  have r0 : W.cell? ⟨w.heap.size, 0, none⟩ = some (.int .i64 0) := (unhide HL).res.c0
  have r1 : W.cell? ⟨w.heap.size, 1, none⟩ = some (.int .i64 0) := (unhide HL).res.c1
  have r2 : W.cell? ⟨w.heap.size, 2, none⟩ = some (.int .i64 0) := (unhide HL).res.c2
  have r3 : W.cell? ⟨w.heap.size, 3, none⟩ = some (.string ⟨#[]⟩) := (unhide HL).res.c3
  have r4 : W.cell? ⟨w.heap.size, 4, none⟩ = some (.string ⟨#[]⟩) := (unhide HL).res.c4
  have r5 : W.cell? ⟨w.heap.size, 5, none⟩ = some (.int .i64 0) := (unhide HL).res.c5
  have r6 : W.cell? ⟨w.heap.size, 6, none⟩ = some (.int .i64 0) := (unhide HL).res.c6
  have rf := (unhide HL).res.f
  have CSh := hide (short_any _ _ _ _ ((unhide HL).d D).cur)
  have CLf := hide (left_any _ _ _ _ ((unhide HL).d D).cur)
  cases hfit : fitB b
  · have HU := hide (unf_bad hfit)
    cases hl : lackB b
    · have hR : b.drop (24 + plOf b + dlOf b) ≠ [] := fun hh => by
        have h1 := lackB_iff.1 hl
        have h2 := congrArg List.length hh
        rw [List.length_drop, List.length_nil] at h2
        have h3 : fitB b = true := fitB_iff.2 ⟨by omega, by omega⟩
        rw [hfit] at h3
        exact absurd h3 (by decide)
      rw [hl] at CSh
      obtain ⟨R, hRR⟩ : ∃ R, b.drop (24 + plOf b + dlOf b) = R := ⟨_, rfl⟩
      rw [hRR] at CLf hR
      have hR' : (0 : Int) < (R.length : Int) := by have := List.length_pos_iff.2 hR; omega
      obtain ⟨m, hm⟩ : ∃ m, R.length = m := ⟨_, rfl⟩
      rw [hm] at CLf hR'
      clear hRR hl hfit hm hR
      go_wp2_with fail
      refine (unhide CSh).mono ?_
      rintro e wS ⟨rfl, rfl⟩
      go_wp2_with fail
      refine (unhide CLf).mono ?_
      rintro e wL ⟨rfl, rfl⟩
      clear CSh CLf
      go_wp2_with fail
      change bodyPost _ _ _ _ _ (putTxn (W.setCell ⟨w.heap.size + 1 + 1, 4, none⟩ (.string ⟨D.toArray⟩)) w.heap.size t0)
      have HV := hide ((unhide HL).d D)
      generalize W.setCell ⟨w.heap.size + 1 + 1, 4, none⟩ (.string ⟨D.toArray⟩) = V at HV ⊢
      have HP := hide ((unhide HV).res.store t0)
      have hB : Below w.heap.size w (putTxn V w.heap.size t0) := (only_put _ _ _).below (unhide HV).below (Nat.le_refl _)
      generalize putTxn V w.heap.size t0 = V2 at HP hB ⊢
      have s0 := (unhide HP).c0
      have s1 := (unhide HP).c1
      have s2 := (unhide HP).c2
      have s3 := (unhide HP).c3
      have s4 := (unhide HP).c4
      have s5 := (unhide HP).c5
      have s6 := (unhide HP).c6
      exact bodyPost_ret (v := .tuple #[txnV t0, .int .i64 2]) (by simp [results, Tryz.results167, go_sem, s0, s1, s2, s3, s4, s5, s6, txnV]) rfl ⟨by rw [(unhide HU).1, (unhide HU).2], hB⟩
    · rw [hl] at CSh
      clear hl hfit CLf
      go_wp2_with fail
      refine (unhide CSh).mono ?_
      rintro e wS ⟨rfl, rfl⟩
      clear CSh
      go_wp2_with fail
      change bodyPost _ _ _ _ _ (putTxn (W.setCell ⟨w.heap.size + 1 + 1, 4, none⟩ (.string ⟨D.toArray⟩)) w.heap.size t0)
      have HV := hide ((unhide HL).d D)
      generalize W.setCell ⟨w.heap.size + 1 + 1, 4, none⟩ (.string ⟨D.toArray⟩) = V at HV ⊢
      have HP := hide ((unhide HV).res.store t0)
      have hB : Below w.heap.size w (putTxn V w.heap.size t0) := (only_put _ _ _).below (unhide HV).below (Nat.le_refl _)
      generalize putTxn V w.heap.size t0 = V2 at HP hB ⊢
      have s0 := (unhide HP).c0
      have s1 := (unhide HP).c1
      have s2 := (unhide HP).c2
      have s3 := (unhide HP).c3
      have s4 := (unhide HP).c4
      have s5 := (unhide HP).c5
      have s6 := (unhide HP).c6
      exact bodyPost_ret (v := .tuple #[txnV t0, .int .i64 2]) (by simp [results, Tryz.results167, go_sem, s0, s1, s2, s3, s4, s5, s6, txnV]) rfl ⟨by rw [(unhide HU).1, (unhide HU).2], hB⟩
  · have hl : lackB b = false := lackB_iff.2 (by have := fitB_iff.1 hfit; omega)
    have hR : b.drop (24 + plOf b + dlOf b) = [] := List.drop_of_length_le (by have := fitB_iff.1 hfit; omega)
    rw [hl] at CSh
    rw [hR] at CLf
    rw [tIn_fit hfit] at HT
    have Hfit := hide hfit
    clear hl hR hfit
    cases hg : (gdE (tOf b) == 0)
    · have hg' : gdE (tOf b) ≠ 0 := by simpa using hg
      have HU := hide (unf_no (unhide Hfit) hg')
      obtain ⟨E, hE⟩ : ∃ E, gdE (tOf b) = E := ⟨_, rfl⟩
      have hne : (E != 0) = true := by rw [← hE]; simp [bne, hg]
      rw [unhide HT] at hE
      rw [unhide HT] at HU
      have HE := hide hE
      clear hE hg hg'
      go_wp2_with fail
      refine (unhide CSh).mono ?_
      rintro e wS ⟨rfl, rfl⟩
      go_wp2_with fail
      refine (unhide CLf).mono ?_
      rintro e wL ⟨rfl, rfl⟩
      clear CSh CLf
      go_wp2_with fail
      refine (wgood_any ⟨x0, x1, x2, P, D, x3, x4⟩ _ (by show D.length ≤ _; omega)).mono ?_
      rintro e w4 ⟨rfl, hb4⟩
      rw [unhide HE]
      have HV0 := hide ((unhide HL).d D)
      have HV := hide ((unhide HV0).kept hb4)
      clear hb4 HV0 HL q0 q1 q2 q3 q4 q5 q6 qf r0 r1 r2 r3 r4 r5 r6 rf
      generalize w4 = V at *
      have r0 : V.cell? ⟨w.heap.size, 0, none⟩ = some (.int .i64 0) := (unhide HV).res.c0
      have r1 : V.cell? ⟨w.heap.size, 1, none⟩ = some (.int .i64 0) := (unhide HV).res.c1
      have r2 : V.cell? ⟨w.heap.size, 2, none⟩ = some (.int .i64 0) := (unhide HV).res.c2
      have r3 : V.cell? ⟨w.heap.size, 3, none⟩ = some (.string ⟨#[]⟩) := (unhide HV).res.c3
      have r4 : V.cell? ⟨w.heap.size, 4, none⟩ = some (.string ⟨#[]⟩) := (unhide HV).res.c4
      have r5 : V.cell? ⟨w.heap.size, 5, none⟩ = some (.int .i64 0) := (unhide HV).res.c5
      have r6 : V.cell? ⟨w.heap.size, 6, none⟩ = some (.int .i64 0) := (unhide HV).res.c6
      have rf := (unhide HV).res.f
      go_wp2_with fail
      change bodyPost _ _ _ _ _ (putTxn V w.heap.size t0)
      have HP := hide ((unhide HV).res.store t0)
      have hB : Below w.heap.size w (putTxn V w.heap.size t0) := (only_put _ _ _).below (unhide HV).below (Nat.le_refl _)
      generalize putTxn V w.heap.size t0 = V2 at HP hB ⊢
      have s0 := (unhide HP).c0
      have s1 := (unhide HP).c1
      have s2 := (unhide HP).c2
      have s3 := (unhide HP).c3
      have s4 := (unhide HP).c4
      have s5 := (unhide HP).c5
      have s6 := (unhide HP).c6
      exact bodyPost_ret (v := .tuple #[txnV t0, .int .i64 E]) (by simp [results, Tryz.results167, go_sem, s0, s1, s2, s3, s4, s5, s6, txnV]) rfl ⟨by rw [(unhide HU).1, (unhide HU).2, unhide HE], hB⟩
    · have hg' : gdE (tOf b) = 0 := by simpa using hg
      have HU := hide (unf_ok (unhide Hfit) hg')
      rw [unhide HT] at hg' HU
      have HE := hide hg'
      clear hg hg'
      go_wp2_with fail
      refine (unhide CSh).mono ?_
      rintro e wS ⟨rfl, rfl⟩
      go_wp2_with fail
      refine (unhide CLf).mono ?_
      rintro e wL ⟨rfl, rfl⟩
      clear CSh CLf
      go_wp2_with fail
      refine (wgood_any ⟨x0, x1, x2, P, D, x3, x4⟩ _ (by show D.length ≤ _; omega)).mono ?_
      rintro e w4 ⟨rfl, hb4⟩
      rw [unhide HE]
      have HV0 := hide ((unhide HL).d D)
      have HV := hide ((unhide HV0).kept hb4)
      clear hb4 HV0 HL q0 q1 q2 q3 q4 q5 q6 qf r0 r1 r2 r3 r4 r5 r6 rf
      generalize w4 = V at *
      have q0 : V.cell? ⟨w.heap.size + 1 + 1, 0, none⟩ = some (.int .i64 x0) := (unhide HV).txn.c0
      have q1 : V.cell? ⟨w.heap.size + 1 + 1, 1, none⟩ = some (.int .i64 x1) := (unhide HV).txn.c1
      have q2 : V.cell? ⟨w.heap.size + 1 + 1, 2, none⟩ = some (.int .i64 x2) := (unhide HV).txn.c2
      have q3 : V.cell? ⟨w.heap.size + 1 + 1, 3, none⟩ = some (.string ⟨P.toArray⟩) := (unhide HV).txn.c3
      have q4 : V.cell? ⟨w.heap.size + 1 + 1, 4, none⟩ = some (.string ⟨D.toArray⟩) := (unhide HV).txn.c4
      have q5 : V.cell? ⟨w.heap.size + 1 + 1, 5, none⟩ = some (.int .i64 x3) := (unhide HV).txn.c5
      have q6 : V.cell? ⟨w.heap.size + 1 + 1, 6, none⟩ = some (.int .i64 x4) := (unhide HV).txn.c6
      have r0 : V.cell? ⟨w.heap.size, 0, none⟩ = some (.int .i64 0) := (unhide HV).res.c0
      have r1 : V.cell? ⟨w.heap.size, 1, none⟩ = some (.int .i64 0) := (unhide HV).res.c1
      have r2 : V.cell? ⟨w.heap.size, 2, none⟩ = some (.int .i64 0) := (unhide HV).res.c2
      have r3 : V.cell? ⟨w.heap.size, 3, none⟩ = some (.string ⟨#[]⟩) := (unhide HV).res.c3
      have r4 : V.cell? ⟨w.heap.size, 4, none⟩ = some (.string ⟨#[]⟩) := (unhide HV).res.c4
      have r5 : V.cell? ⟨w.heap.size, 5, none⟩ = some (.int .i64 0) := (unhide HV).res.c5
      have r6 : V.cell? ⟨w.heap.size, 6, none⟩ = some (.int .i64 0) := (unhide HV).res.c6
      have rf := (unhide HV).res.f
      go_wp2_with fail
      change bodyPost _ _ _ _ _ (putTxn V w.heap.size ⟨x0, x1, x2, P, D, x3, x4⟩)
      have HP := hide ((unhide HV).res.store ⟨x0, x1, x2, P, D, x3, x4⟩)
      have hB : Below w.heap.size w (putTxn V w.heap.size ⟨x0, x1, x2, P, D, x3, x4⟩) := (only_put _ _ _).below (unhide HV).below (Nat.le_refl _)
      generalize putTxn V w.heap.size ⟨x0, x1, x2, P, D, x3, x4⟩ = V2 at HP hB ⊢
      have s0 := (unhide HP).c0
      have s1 := (unhide HP).c1
      have s2 := (unhide HP).c2
      have s3 := (unhide HP).c3
      have s4 := (unhide HP).c4
      have s5 := (unhide HP).c5
      have s6 := (unhide HP).c6
      exact bodyPost_ret (v := .tuple #[txnV ⟨x0, x1, x2, P, D, x3, x4⟩, .int .i64 0]) (by simp [results, Tryz.results167, go_sem, s0, s1, s2, s3, s4, s5, s6, txnV]) rfl ⟨by rw [(unhide HU).1, (unhide HU).2], hB⟩

end Go.Proofs.YtaoflcmeiaffjaaGreatDoor

namespace Go.Proofs.YtaoflcmeiaffjaaGreatDoor
open Go.RowKit

/-- how far Decode has come: the result's cells and the cursor -/
structure Dec (w W : World) (r : List UInt8) (b : Bool) : Prop where
  res : TxnAt W w.heap.size t0
  cur : Cur W (w.heap.size + 1) r b
  size : w.heap.size + 2 ≤ W.heap.size
  below : Below w.heap.size w W
theorem Dec.took {w W V : World} {r r' : List UInt8} {b b' : Bool} (h : Dec w W r b) (hc : Cur V (w.heap.size + 1) r' b') (ho : Only (w.heap.size + 1) W V) : Dec w V r' b' :=
  ⟨h.res.other ho (by omega), hc, by rw [ho.size]; exact h.size, ho.below h.below (by omega)⟩
theorem Dec.kept {w W V : World} {r : List UInt8} {b : Bool} (h : Dec w W r b) (hb : Below W.heap.size W V) : Dec w V r b :=
  ⟨h.res.kept hb (by have := h.size; omega), h.cur.kept hb (by have := h.size; omega), Nat.le_trans h.size hb.size, h.below.trans (hb.mono h.below.size)⟩
theorem Dec.new {w : World} {s : List UInt8} : Dec w ((w.alloc (.cells #[.int .i64 0, .int .i64 0, .int .i64 0, .string ⟨#[]⟩, .string ⟨#[]⟩, .int .i64 0, .int .i64 0] 47)).alloc (.cells #[.string ⟨s.toArray⟩, .bool false] 204)) s false := by
  refine ⟨?_, ?_, by simp, ((Below.refl _ _).alloc (Nat.le_refl _) _).alloc (by simp) _⟩
  · exact (Below.heap_alloc _ _ _ (by simp)).trans (heap_new _ _)
  · have := heap_new (w.alloc (.cells #[.int .i64 0, .int .i64 0, .int .i64 0, .string ⟨#[]⟩, .string ⟨#[]⟩, .int .i64 0, .int .i64 0] 47)) (.cells #[.string ⟨s.toArray⟩, .bool false] 204)
    rwa [World.size_alloc] at this
theorem lenOf_lt (s : List UInt8) : lenOf s < 65536 := by
  have h := un_lt ((s.drop 1).take 2)
  have h2 : ((s.drop 1).take 2).length ≤ 2 := List.length_take_le _ _
  have h3 : 256 ^ ((s.drop 1).take 2).length ≤ 256 ^ 2 := Nat.pow_le_pow_right (by decide) h2
  unfold lenOf
  omega
def lackD (s : List UInt8) : Bool := false || decide (s.length < 1) || decide ((s.drop 1).length < 2) || decide ((s.drop 3).length < lenOf s) || decide ((s.drop (3 + lenOf s)).length < 4)
theorem lackD_iff {s : List UInt8} : lackD s = false ↔ lenOf s + 7 ≤ s.length := by
  simp only [lackD, Bool.or_eq_false_iff, decide_eq_false_iff_not, List.length_drop, true_and]
  omega
theorem ret_dec {a b : Value} {i j k l : Int} (h : a = b) (h1 : i = j) (h2 : k = l) : Ending.returned (.tuple #[a, .int .i64 i, .int .i64 k]) = .returned (.tuple #[b, .int .i64 j, .int .i64 l]) := by rw [h, h1, h2]

set_option maxRecDepth 10000 in
set_option maxHeartbeats 2000000 in
theorem decode_mark (s : List UInt8) (w : World) (hm : s.take 1 ≠ [84]) :
    Calls Tryz.prog 126 #[.string ⟨s.toArray⟩] w fun e w' => e = .returned (.tuple #[txnV (decT s), .int .i64 (decN s), .int .i64 (decE s)]) ∧ Below w.heap.size w w' := by
  have HU := hide (dec_bad (s := s) (wholeB_no (fun h => hm h.1)))
  have hlt := lenOf_lt s
  obtain ⟨T, hT⟩ : ∃ T, s.take 1 = T := ⟨_, rfl⟩
  rw [hT] at hm
  have hm' : (T == [84]) = false := by simpa using hm
  have ET := hide hT
  clear hT hm
  go_enter Tryz.func126, Tryz.ntmps126
  go_wp2_with fail
  refine (along_any s _).mono ?_
  rintro e wA ⟨rfl, rfl⟩
  go_wp2_with fail
  have H := hide (Dec.new (w := w) (s := s))
  generalize (w.alloc _).alloc _ = W at H ⊢
  refine (text_any (w.heap.size + 1) 1 _ _ _ (by decide) (unhide H).cur).mono ?_
  rintro e w1 ⟨rfl, hc1, ho1⟩
  replace H := hide ((unhide H).took hc1 ho1)
  clear hc1 ho1 W
  generalize w1 = W at *
  rw [unhide ET]
  go_wp2_with fail
  refine (cnumber_any (w.heap.size + 1) 2 _ _ _ (by decide) (unhide H).cur).mono ?_
  rintro e w1 ⟨rfl, hc1, ho1⟩
  replace H := hide ((unhide H).took hc1 ho1)
  clear hc1 ho1 W
  generalize w1 = W at *
  rw [un_take_le _ _ (by decide)]
  rw [show un ((s.drop 1).take 2) = lenOf s from rfl]
  simp only [List.drop_drop, Nat.reduceAdd] at H
  obtain ⟨L, hL⟩ : ∃ L, lenOf s = L := ⟨_, rfl⟩
  rw [hL] at hlt ⊢
  have EL := hide hL
  clear hL
  have r0 : W.cell? ⟨w.heap.size, 0, none⟩ = some (.int .i64 0) := (unhide H).res.c0
  have r1 : W.cell? ⟨w.heap.size, 1, none⟩ = some (.int .i64 0) := (unhide H).res.c1
  have r2 : W.cell? ⟨w.heap.size, 2, none⟩ = some (.int .i64 0) := (unhide H).res.c2
  have r3 : W.cell? ⟨w.heap.size, 3, none⟩ = some (.string ⟨#[]⟩) := (unhide H).res.c3
  have r4 : W.cell? ⟨w.heap.size, 4, none⟩ = some (.string ⟨#[]⟩) := (unhide H).res.c4
  have r5 : W.cell? ⟨w.heap.size, 5, none⟩ = some (.int .i64 0) := (unhide H).res.c5
  have r6 : W.cell? ⟨w.heap.size, 6, none⟩ = some (.int .i64 0) := (unhide H).res.c6
  have rf := (unhide H).res.f
  go_wp2_with fail
  change bodyPost _ _ _ _ _ (putTxn W w.heap.size t0)
  have HP := hide ((unhide H).res.store t0)
  have hB : Below w.heap.size w (putTxn W w.heap.size t0) := (only_put _ _ _).below (unhide H).below (Nat.le_refl _)
  generalize putTxn W w.heap.size t0 = V2 at HP hB ⊢
  have s0 := (unhide HP).c0
  have s1 := (unhide HP).c1
  have s2 := (unhide HP).c2
  have s3 := (unhide HP).c3
  have s4 := (unhide HP).c4
  have s5 := (unhide HP).c5
  have s6 := (unhide HP).c6
  exact bodyPost_ret (v := .tuple #[txnV t0, .int .i64 0, .int .i64 2]) (by simp [results, Tryz.results126, go_sem, s0, s1, s2, s3, s4, s5, s6, txnV]) rfl ⟨by rw [(unhide HU).1, (unhide HU).2.1, (unhide HU).2.2], hB⟩

set_option maxRecDepth 10000 in
set_option maxHeartbeats 2000000 in
theorem decode_long (s : List UInt8) (w : World) (hm : s.take 1 = [84]) (hl : 1024 < lenOf s) :
    Calls Tryz.prog 126 #[.string ⟨s.toArray⟩] w fun e w' => e = .returned (.tuple #[txnV (decT s), .int .i64 (decN s), .int .i64 (decE s)]) ∧ Below w.heap.size w w' := by
  have HU := hide (dec_bad (s := s) (wholeB_no (fun h => by omega)))
  have ET := hide hm
  clear hm
  go_enter Tryz.func126, Tryz.ntmps126
  go_wp2_with fail
  refine (along_any s _).mono ?_
  rintro e wA ⟨rfl, rfl⟩
  go_wp2_with fail
  have H := hide (Dec.new (w := w) (s := s))
  generalize (w.alloc _).alloc _ = W at H ⊢
  refine (text_any (w.heap.size + 1) 1 _ _ _ (by decide) (unhide H).cur).mono ?_
  rintro e w1 ⟨rfl, hc1, ho1⟩
  replace H := hide ((unhide H).took hc1 ho1)
  clear hc1 ho1 W
  generalize w1 = W at *
  rw [unhide ET]
  go_wp2_with fail
  refine (cnumber_any (w.heap.size + 1) 2 _ _ _ (by decide) (unhide H).cur).mono ?_
  rintro e w1 ⟨rfl, hc1, ho1⟩
  replace H := hide ((unhide H).took hc1 ho1)
  clear hc1 ho1 W
  generalize w1 = W at *
  rw [un_take_le _ _ (by decide)]
  rw [show un ((s.drop 1).take 2) = lenOf s from rfl]
  simp only [List.drop_drop, Nat.reduceAdd] at H
  obtain ⟨L, hL⟩ : ∃ L, lenOf s = L := ⟨_, rfl⟩
  rw [hL] at hl ⊢
  have EL := hide hL
  clear hL
  have r0 : W.cell? ⟨w.heap.size, 0, none⟩ = some (.int .i64 0) := (unhide H).res.c0
  have r1 : W.cell? ⟨w.heap.size, 1, none⟩ = some (.int .i64 0) := (unhide H).res.c1
  have r2 : W.cell? ⟨w.heap.size, 2, none⟩ = some (.int .i64 0) := (unhide H).res.c2
  have r3 : W.cell? ⟨w.heap.size, 3, none⟩ = some (.string ⟨#[]⟩) := (unhide H).res.c3
  have r4 : W.cell? ⟨w.heap.size, 4, none⟩ = some (.string ⟨#[]⟩) := (unhide H).res.c4
  have r5 : W.cell? ⟨w.heap.size, 5, none⟩ = some (.int .i64 0) := (unhide H).res.c5
  have r6 : W.cell? ⟨w.heap.size, 6, none⟩ = some (.int .i64 0) := (unhide H).res.c6
  have rf := (unhide H).res.f
  go_wp2_with fail
  change bodyPost _ _ _ _ _ (putTxn W w.heap.size t0)
  have HP := hide ((unhide H).res.store t0)
  have hB : Below w.heap.size w (putTxn W w.heap.size t0) := (only_put _ _ _).below (unhide H).below (Nat.le_refl _)
  generalize putTxn W w.heap.size t0 = V2 at HP hB ⊢
  have s0 := (unhide HP).c0
  have s1 := (unhide HP).c1
  have s2 := (unhide HP).c2
  have s3 := (unhide HP).c3
  have s4 := (unhide HP).c4
  have s5 := (unhide HP).c5
  have s6 := (unhide HP).c6
  exact bodyPost_ret (v := .tuple #[txnV t0, .int .i64 0, .int .i64 2]) (by simp [results, Tryz.results126, go_sem, s0, s1, s2, s3, s4, s5, s6, txnV]) rfl ⟨by rw [(unhide HU).1, (unhide HU).2.1, (unhide HU).2.2], hB⟩

set_option maxRecDepth 10000 in
set_option maxHeartbeats 2000000 in
theorem decode_short (s : List UInt8) (w : World) (hs : s.length ≤ 140737488355328) (hm : s.take 1 = [84]) (hl : lenOf s ≤ 1024) (hn : s.length < lenOf s + 7) :
    Calls Tryz.prog 126 #[.string ⟨s.toArray⟩] w fun e w' => e = .returned (.tuple #[txnV (decT s), .int .i64 (decN s), .int .i64 (decE s)]) ∧ Below w.heap.size w w' := by
  have HU := hide (dec_bad (s := s) (wholeB_no (fun h => by omega)))
  have hlk : lackD s = true := by
    cases h : lackD s with
    | true => rfl
    | false => have := lackD_iff.1 h; omega
  have HK := hide hlk
  have ET := hide hm
  clear hm hlk
  go_enter Tryz.func126, Tryz.ntmps126
  go_wp2_with fail
  refine (along_any s _).mono ?_
  rintro e wA ⟨rfl, rfl⟩
  go_wp2_with fail
  have H := hide (Dec.new (w := w) (s := s))
  generalize (w.alloc _).alloc _ = W at H ⊢
  refine (text_any (w.heap.size + 1) 1 _ _ _ (by decide) (unhide H).cur).mono ?_
  rintro e w1 ⟨rfl, hc1, ho1⟩
  replace H := hide ((unhide H).took hc1 ho1)
  clear hc1 ho1 W
  generalize w1 = W at *
  rw [unhide ET]
  go_wp2_with fail
  refine (cnumber_any (w.heap.size + 1) 2 _ _ _ (by decide) (unhide H).cur).mono ?_
  rintro e w1 ⟨rfl, hc1, ho1⟩
  replace H := hide ((unhide H).took hc1 ho1)
  clear hc1 ho1 W
  generalize w1 = W at *
  rw [un_take_le _ _ (by decide)]
  rw [show un ((s.drop 1).take 2) = lenOf s from rfl]
  simp only [List.drop_drop, Nat.reduceAdd] at H
  obtain ⟨L, hL⟩ : ∃ L, lenOf s = L := ⟨_, rfl⟩
  rw [hL] at hl hn ⊢
  have EL := hide hL
  clear hL
  go_wp2_with fail
  refine (text_any (w.heap.size + 1) L _ _ _ (by omega) (unhide H).cur).mono ?_
  rintro e w1 ⟨rfl, hc1, ho1⟩
  replace H := hide ((unhide H).took hc1 ho1)
  clear hc1 ho1 W
  generalize w1 = W at *
  simp only [List.drop_drop] at H
  have CL := hide (left_any (w.heap.size + 1) _ _ _ (unhide H).cur)
  rw [List.length_drop] at CL
  have hzs : (ByteArray.mk s.toArray).size = s.length := Lib.size_eq ⟨s.toArray⟩
  go_wp2_with fail
  refine (unhide CL).mono ?_
  rintro e wL ⟨rfl, hwL⟩
  rw [hwL]
  clear hwL
  clear CL
  go_wp2_with fail
  refine (cnumber_any (w.heap.size + 1) 4 _ _ _ (by decide) (unhide H).cur).mono ?_
  rintro e w1 ⟨rfl, hc1, ho1⟩
  replace H := hide ((unhide H).took hc1 ho1)
  clear hc1 ho1 W
  generalize w1 = W at *
  simp only [List.drop_drop] at H
  have cc1 := (unhide H).cur
  rw [← unhide EL] at cc1
  have cc2 : Cur W (w.heap.size + 1) _ (lackD s) := cc1
  rw [unhide HK] at cc2
  have CSh := hide (short_any _ _ _ _ cc2)
  clear cc1 cc2
  go_wp2_with fail
  refine (unhide CSh).mono ?_
  rintro e wS ⟨rfl, hwS⟩
  rw [hwS]
  clear hwS
  clear CSh
  have r0 : W.cell? ⟨w.heap.size, 0, none⟩ = some (.int .i64 0) := (unhide H).res.c0
  have r1 : W.cell? ⟨w.heap.size, 1, none⟩ = some (.int .i64 0) := (unhide H).res.c1
  have r2 : W.cell? ⟨w.heap.size, 2, none⟩ = some (.int .i64 0) := (unhide H).res.c2
  have r3 : W.cell? ⟨w.heap.size, 3, none⟩ = some (.string ⟨#[]⟩) := (unhide H).res.c3
  have r4 : W.cell? ⟨w.heap.size, 4, none⟩ = some (.string ⟨#[]⟩) := (unhide H).res.c4
  have r5 : W.cell? ⟨w.heap.size, 5, none⟩ = some (.int .i64 0) := (unhide H).res.c5
  have r6 : W.cell? ⟨w.heap.size, 6, none⟩ = some (.int .i64 0) := (unhide H).res.c6
  have rf := (unhide H).res.f
  go_wp2_with fail
  change bodyPost _ _ _ _ _ (putTxn W w.heap.size t0)
  have HP := hide ((unhide H).res.store t0)
  have hB : Below w.heap.size w (putTxn W w.heap.size t0) := (only_put _ _ _).below (unhide H).below (Nat.le_refl _)
  generalize putTxn W w.heap.size t0 = V2 at HP hB ⊢
  have s0 := (unhide HP).c0
  have s1 := (unhide HP).c1
  have s2 := (unhide HP).c2
  have s3 := (unhide HP).c3
  have s4 := (unhide HP).c4
  have s5 := (unhide HP).c5
  have s6 := (unhide HP).c6
  exact bodyPost_ret (v := .tuple #[txnV t0, .int .i64 0, .int .i64 2]) (by simp [results, Tryz.results126, go_sem, s0, s1, s2, s3, s4, s5, s6, txnV]) rfl ⟨by rw [(unhide HU).1, (unhide HU).2.1, (unhide HU).2.2], hB⟩

end Go.Proofs.YtaoflcmeiaffjaaGreatDoor

namespace Go.Proofs.YtaoflcmeiaffjaaGreatDoor
open Go.RowKit
set_option maxRecDepth 10000 in

set_option maxHeartbeats 400000 in
theorem decode_whole (s : List UInt8) (w : World) (hm : s.take 1 = [84]) (hl : lenOf s ≤ 1024) (hn : lenOf s + 7 ≤ s.length) :
    Calls Tryz.prog 126 #[.string ⟨s.toArray⟩] w fun e w' => e = .returned (.tuple #[txnV (decT s), .int .i64 (decN s), .int .i64 (decE s)]) ∧ Below w.heap.size w w' := by
  have HW := hide (wholeB_iff.2 ⟨hm, hl, hn⟩)
  have hlk : lackD s = false := lackD_iff.2 hn
  have HK := hide hlk
  have ET := hide hm
  clear hm hlk
  go_enter Tryz.func126, Tryz.ntmps126
  go_wp2_with fail
  refine (along_any s _).mono ?_
  rintro e wA ⟨rfl, rfl⟩
  go_wp2_with fail
  have H := hide (Dec.new (w := w) (s := s))
  generalize (w.alloc _).alloc _ = W at H ⊢
  refine (text_any (w.heap.size + 1) 1 _ _ _ (by decide) (unhide H).cur).mono ?_
  rintro e w1 ⟨rfl, hc1, ho1⟩
  replace H := hide ((unhide H).took hc1 ho1)
  clear hc1 ho1 W
  generalize w1 = W at *
  rw [unhide ET]
  go_wp2_with fail
  refine (cnumber_any (w.heap.size + 1) 2 _ _ _ (by decide) (unhide H).cur).mono ?_
  rintro e w1 ⟨rfl, hc1, ho1⟩
  replace H := hide ((unhide H).took hc1 ho1)
  clear hc1 ho1 W
  generalize w1 = W at *
  rw [un_take_le _ _ (by decide)]
  rw [show un ((s.drop 1).take 2) = lenOf s from rfl]
  simp only [List.drop_drop, Nat.reduceAdd] at H
  obtain ⟨L, hL⟩ : ∃ L, lenOf s = L := ⟨_, rfl⟩
  rw [hL] at hl hn ⊢
  have EL := hide hL
  clear hL
  go_wp2_with fail
  refine (text_any (w.heap.size + 1) L _ _ _ (by omega) (unhide H).cur).mono ?_
  rintro e w1 ⟨rfl, hc1, ho1⟩
  replace H := hide ((unhide H).took hc1 ho1)
  clear hc1 ho1 W
  generalize w1 = W at *
  simp only [List.drop_drop] at H
  obtain ⟨B, hB⟩ : ∃ B, (s.drop 3).take L = B := ⟨_, rfl⟩
  rw [hB]
  have EB := hide hB
  clear hB
  have CL := hide (left_any (w.heap.size + 1) _ _ _ (unhide H).cur)
  rw [List.length_drop] at CL
  have hzs : (ByteArray.mk s.toArray).size = s.length := Lib.size_eq ⟨s.toArray⟩
  obtain ⟨M, hM⟩ : ∃ M, s.length - (3 + L) = M := ⟨_, rfl⟩
  rw [hM] at CL
  have hM2 : s.length = M + (L + 3) := by omega
  obtain ⟨Y, hY⟩ : ∃ Y, s.drop (3 + L) = Y := ⟨_, rfl⟩
  have EY := hide hY
  have HM := hide hM2
  clear hY hM hM2
  go_wp2_with fail
  refine (unhide CL).mono ?_
  rintro e wL ⟨rfl, hwL⟩
  rw [hwL]
  clear hwL
  clear CL
  go_wp2_with fail
  refine (cnumber_any (w.heap.size + 1) 4 _ _ _ (by decide) (unhide H).cur).mono ?_
  rintro e w1 ⟨rfl, hc1, ho1⟩
  replace H := hide ((unhide H).took hc1 ho1)
  clear hc1 ho1 W
  generalize w1 = W at *
  simp only [List.drop_drop] at H
  have cc1 := (unhide H).cur
  rw [← unhide EL] at cc1
  have cc3 : Cur W (w.heap.size + 1) _ (lackD s) := cc1
  rw [unhide HK] at cc3
  have CSh := hide (short_any _ _ _ _ cc3)
  have cc2 := cc3.c1
  clear cc1 cc3
  rw [un_take_le _ _ (by decide), show 3 + L = L + 3 from by omega]
  obtain ⟨Q, hQ⟩ : ∃ Q, un ((s.drop (L + 3)).take 4) = Q := ⟨_, rfl⟩
  rw [hQ]
  have EQ := hide hQ
  clear hQ
  have hd3 : wrap64 ((s.length : Int) - (M : Int)) = (L : Int) + 3 := by have := unhide HM; unfold wrap64; omega
  rw [hd3]
  clear hd3
  have c1 : (0 : Int) ≤ (L : Int) + 3 := by omega
  have c2 : (L : Int) + 3 ≤ (s.length : Int) := by omega
  go_wp2_with fail
  refine (unhide CSh).mono ?_
  rintro e wS ⟨rfl, hwS⟩
  rw [hwS]
  clear hwS
  clear CSh
  go_wp2_with fail
  rw [ex_front]
  have hzp : (ByteArray.mk (s.take (L + 3)).toArray).size = (s.take (L + 3)).length := Lib.size_eq ⟨_⟩
  rw [List.length_take] at hzp
  refine (wsum_any ⟨(s.take (L + 3)).toArray⟩ _ (by omega)).mono ?_
  rintro e w6 ⟨rfl, hw6⟩
  rw [hw6]
  clear hzp hw6
  rw [show (ByteArray.mk (s.take (L + 3)).toArray).data.toList = s.take (L + 3) from rfl]
  obtain ⟨X, hX⟩ : ∃ X, sumN (s.take (L + 3)) = X := ⟨_, rfl⟩
  rw [hX]
  have EX := hide hX
  clear hX
  by_cases hXQ : X = Q
  · subst hXQ
    have Hsum : Hid (sumB s = true) := hide (sumB_iff.2 (by rw [unhide EL, unhide EQ, unhide EX]))
    have Hin : Hid (insideL s = B) := hide (by rw [insideL, unhide EL, unhide EB])
    go_wp2_with fail
    refine (unfold_any B _).mono ?_
    rintro e w5 ⟨rfl, hb5⟩
    replace H := hide ((unhide H).kept hb5)
    clear hb5 cc2 W
    generalize w5 = W at *
    by_cases hE : unfE B = 0
    · have HU := hide (dec_ok (unhide HW) (unhide Hsum) (by rw [unhide Hin]; exact hE))
      have Ht : Hid (unfT B = tOf B) := hide (by rw [unfT, hE, if_pos rfl])
      rw [hE, unhide Ht]
      rw [unhide Hin, unhide EL] at HU
      obtain ⟨t, ht⟩ : ∃ t, tOf B = t := ⟨_, rfl⟩
      rw [ht] at HU ⊢
      clear ht hE Ht
      obtain ⟨z, o, s', p, d, v, u⟩ := t
      unfold txnV
      have r0 : W.cell? ⟨w.heap.size, 0, none⟩ = some (.int .i64 0) := (unhide H).res.c0
      have r1 : W.cell? ⟨w.heap.size, 1, none⟩ = some (.int .i64 0) := (unhide H).res.c1
      have r2 : W.cell? ⟨w.heap.size, 2, none⟩ = some (.int .i64 0) := (unhide H).res.c2
      have r3 : W.cell? ⟨w.heap.size, 3, none⟩ = some (.string ⟨#[]⟩) := (unhide H).res.c3
      have r4 : W.cell? ⟨w.heap.size, 4, none⟩ = some (.string ⟨#[]⟩) := (unhide H).res.c4
      have r5 : W.cell? ⟨w.heap.size, 5, none⟩ = some (.int .i64 0) := (unhide H).res.c5
      have r6 : W.cell? ⟨w.heap.size, 6, none⟩ = some (.int .i64 0) := (unhide H).res.c6
      have rf := (unhide H).res.f
      have hlt2 : w.heap.size < W.heap.size := by have := (unhide H).size; omega
      go_wp2_with fail
      change bodyPost _ _ _ _ _ ((putTxn W w.heap.size ⟨z, o, s', p, d, v, u⟩).alloc (.cells #[.int .i64 z, .int .i64 o, .int .i64 s', .string ⟨p.toArray⟩, .string ⟨d.toArray⟩, .int .i64 v, .int .i64 u] 47))
      have HP := hide (((unhide H).res.store ⟨z, o, s', p, d, v, u⟩).kept ((Below.refl _ _).alloc (Nat.le_refl _) (.cells #[.int .i64 z, .int .i64 o, .int .i64 s', .string ⟨p.toArray⟩, .string ⟨d.toArray⟩, .int .i64 v, .int .i64 u] 47)) (by rw [(only_put _ _ _).size]; exact hlt2))
      have hB : Below w.heap.size w ((putTxn W w.heap.size ⟨z, o, s', p, d, v, u⟩).alloc (.cells #[.int .i64 z, .int .i64 o, .int .i64 s', .string ⟨p.toArray⟩, .string ⟨d.toArray⟩, .int .i64 v, .int .i64 u] 47)) := ((only_put _ _ _).below (unhide H).below (Nat.le_refl _)).alloc (by rw [(only_put _ _ _).size]; exact Nat.le_of_lt hlt2) _
      generalize (putTxn W w.heap.size ⟨z, o, s', p, d, v, u⟩).alloc (.cells #[.int .i64 z, .int .i64 o, .int .i64 s', .string ⟨p.toArray⟩, .string ⟨d.toArray⟩, .int .i64 v, .int .i64 u] 47) = V2 at HP hB ⊢
      have s0 := (unhide HP).c0
      have s1 := (unhide HP).c1
      have s2 := (unhide HP).c2
      have s3 := (unhide HP).c3
      have s4 := (unhide HP).c4
      have s5 := (unhide HP).c5
      have s6 := (unhide HP).c6
      exact bodyPost_ret (v := .tuple #[txnV ⟨z, o, s', p, d, v, u⟩, .int .i64 ((L : Int) + 3 + 4), .int .i64 0]) (by simp [results, Tryz.results126, go_sem, s0, s1, s2, s3, s4, s5, s6, txnV]) rfl ⟨ret_dec (by rw [(unhide HU).2.1]) (by rw [(unhide HU).2.2]; omega) (unhide HU).1.symm, hB⟩
    · have HU := hide (dec_form (unhide HW) (unhide Hsum) (by rw [unhide Hin]) hE)
      have Ht : Hid (unfT B = t0) := hide (by rw [unfT, if_neg hE])
      rw [unhide Ht]
      obtain ⟨E, hEE⟩ : ∃ E, unfE B = E := ⟨_, rfl⟩
      rw [hEE] at HU hE ⊢
      have hne : (E != 0) = true := by simpa [bne] using hE
      clear hEE hE Ht
      unfold txnV t0
      have r0 : W.cell? ⟨w.heap.size, 0, none⟩ = some (.int .i64 0) := (unhide H).res.c0
      have r1 : W.cell? ⟨w.heap.size, 1, none⟩ = some (.int .i64 0) := (unhide H).res.c1
      have r2 : W.cell? ⟨w.heap.size, 2, none⟩ = some (.int .i64 0) := (unhide H).res.c2
      have r3 : W.cell? ⟨w.heap.size, 3, none⟩ = some (.string ⟨#[]⟩) := (unhide H).res.c3
      have r4 : W.cell? ⟨w.heap.size, 4, none⟩ = some (.string ⟨#[]⟩) := (unhide H).res.c4
      have r5 : W.cell? ⟨w.heap.size, 5, none⟩ = some (.int .i64 0) := (unhide H).res.c5
      have r6 : W.cell? ⟨w.heap.size, 6, none⟩ = some (.int .i64 0) := (unhide H).res.c6
      have rf := (unhide H).res.f
      have hlt2 : w.heap.size < W.heap.size := by have := (unhide H).size; omega
      go_wp2_with fail
      change bodyPost _ _ _ _ _ ((putTxn W w.heap.size t0).alloc (.cells #[.int .i64 0, .int .i64 0, .int .i64 0, .string ⟨#[]⟩, .string ⟨#[]⟩, .int .i64 0, .int .i64 0] 47))
      have HP := hide (((unhide H).res.store t0).kept ((Below.refl _ _).alloc (Nat.le_refl _) (.cells #[.int .i64 0, .int .i64 0, .int .i64 0, .string ⟨#[]⟩, .string ⟨#[]⟩, .int .i64 0, .int .i64 0] 47)) (by rw [(only_put _ _ _).size]; exact hlt2))
      have hB : Below w.heap.size w ((putTxn W w.heap.size t0).alloc (.cells #[.int .i64 0, .int .i64 0, .int .i64 0, .string ⟨#[]⟩, .string ⟨#[]⟩, .int .i64 0, .int .i64 0] 47)) := ((only_put _ _ _).below (unhide H).below (Nat.le_refl _)).alloc (by rw [(only_put _ _ _).size]; exact Nat.le_of_lt hlt2) _
      generalize (putTxn W w.heap.size t0).alloc (.cells #[.int .i64 0, .int .i64 0, .int .i64 0, .string ⟨#[]⟩, .string ⟨#[]⟩, .int .i64 0, .int .i64 0] 47) = V2 at HP hB ⊢
      have s0 := (unhide HP).c0
      have s1 := (unhide HP).c1
      have s2 := (unhide HP).c2
      have s3 := (unhide HP).c3
      have s4 := (unhide HP).c4
      have s5 := (unhide HP).c5
      have s6 := (unhide HP).c6
      exact bodyPost_ret (v := .tuple #[txnV t0, .int .i64 0, .int .i64 E]) (by simp [results, Tryz.results126, go_sem, s0, s1, s2, s3, s4, s5, s6, txnV]) rfl ⟨by rw [(unhide HU).1, (unhide HU).2.1, (unhide HU).2.2], hB⟩
  · have Hsum : Hid (sumB s = false) := hide (by
      cases h : sumB s with
      | false => rfl
      | true =>
        have h2 := sumB_iff.1 h
        rw [unhide EL, unhide EQ, unhide EX] at h2
        exact absurd h2.symm hXQ)
    have HU := hide (dec_sum (unhide HW) (unhide Hsum))
    have hne : ((X : Int) != (Q : Int)) = true := by simp [bne]; omega
    have r0 : W.cell? ⟨w.heap.size, 0, none⟩ = some (.int .i64 0) := (unhide H).res.c0
    have r1 : W.cell? ⟨w.heap.size, 1, none⟩ = some (.int .i64 0) := (unhide H).res.c1
    have r2 : W.cell? ⟨w.heap.size, 2, none⟩ = some (.int .i64 0) := (unhide H).res.c2
    have r3 : W.cell? ⟨w.heap.size, 3, none⟩ = some (.string ⟨#[]⟩) := (unhide H).res.c3
    have r4 : W.cell? ⟨w.heap.size, 4, none⟩ = some (.string ⟨#[]⟩) := (unhide H).res.c4
    have r5 : W.cell? ⟨w.heap.size, 5, none⟩ = some (.int .i64 0) := (unhide H).res.c5
    have r6 : W.cell? ⟨w.heap.size, 6, none⟩ = some (.int .i64 0) := (unhide H).res.c6
    have rf := (unhide H).res.f
    go_wp2_with fail
    change bodyPost _ _ _ _ _ (putTxn W w.heap.size t0)
    have HP := hide ((unhide H).res.store t0)
    have hB : Below w.heap.size w (putTxn W w.heap.size t0) := (only_put _ _ _).below (unhide H).below (Nat.le_refl _)
    generalize putTxn W w.heap.size t0 = V2 at HP hB ⊢
    have s0 := (unhide HP).c0
    have s1 := (unhide HP).c1
    have s2 := (unhide HP).c2
    have s3 := (unhide HP).c3
    have s4 := (unhide HP).c4
    have s5 := (unhide HP).c5
    have s6 := (unhide HP).c6
    exact bodyPost_ret (v := .tuple #[txnV t0, .int .i64 0, .int .i64 5]) (by simp [results, Tryz.results126, go_sem, s0, s1, s2, s3, s4, s5, s6, txnV]) rfl ⟨by rw [(unhide HU).1, (unhide HU).2.1, (unhide HU).2.2], hB⟩


theorem decode_any (s : List UInt8) (w : World) (hs : s.length ≤ 140737488355328) :
    Calls Tryz.prog 126 #[.string ⟨s.toArray⟩] w fun e w' => e = .returned (.tuple #[txnV (decT s), .int .i64 (decN s), .int .i64 (decE s)]) ∧ Below w.heap.size w w' := by
  by_cases hm : s.take 1 = [84]
  · by_cases hl : lenOf s ≤ 1024
    · by_cases hn : lenOf s + 7 ≤ s.length
      · exact decode_whole s w hm hl hn
      · exact decode_short s w hs hm hl (by omega)
    · exact decode_long s w hm (by omega)
  · exact decode_mark s w hm

end Go.Proofs.YtaoflcmeiaffjaaGreatDoor

namespace Go.Proofs.YtaoflcmeiaffjaaGreatDoor
open Go.RowKit

theorem scan_any {s r : List UInt8} {ts : List WTxn} (S : Scan s ts r) (hs : s.length ≤ 1048576) : GivesL 68 s ts (recsL ts).length := fun W =>
  (scan_of (fun s w h => decode_any s w h) s r ts W S hs).mono fun _ _ ⟨v, he, ho, hb⟩ => ⟨v, he, ho.log, hb⟩
theorem recover_no {fs : List DF} {E : Int} (hs : Slim fs) (h : RecNo fs E) : GivesW 27 (fun x => #[x]) fs [] [] E := by
  rcases h with ⟨h, rfl⟩ | ⟨g, h16, ⟨A, B, G⟩, rfl⟩
  · exact wrec_bad fs 3 (fun v W hv => read_no v fs logN 3 W hv hs (.inl ⟨h, rfl⟩)) (by decide) (by decide)
  · exact wrec_gap_any fs [] 6 (fun v W hv => read_no v fs logN 7 W hv hs (.inr ⟨g, ⟨A, B, G⟩, rfl⟩))
      (dgives_no fun v W hv => write_no v fs logN [] 6 W hv hs (by decide) (by decide) (.inr (.inr (.inl ⟨g, named_log, h16, ⟨A, B, G⟩, rfl⟩))))
theorem recover_yes {fs A B : List DF} {ts : List WTxn} (h : RecYes fs ts A B) : GivesW 27 (fun x => #[x]) fs ts (A ++ logF ts :: B) 0 := by
  have hs := good_slim h.good
  rcases h.old with ⟨h16, G, rfl⟩ | ⟨f, r, T, S⟩
  · exact wrec_gap_any fs _ 0 (fun v W hv => read_no v fs logN 7 W hv hs (.inr ⟨h.good, ⟨A, B, G⟩, rfl⟩))
      (gives_own fun v W hv => write_new v fs A B logN [] W hv hs h.good named_log h16 G (by decide))
  · have hf := fileOk_len (T.ok h.good)
    have hl := S.len
    rw [List.length_append] at hl
    refine wrec_there fs _ (f.s ++ f.t) ts (recsL ts).length (fun v W hv => read_there v fs A B f logN W hv hs h.good T) (scan_any S (by rw [List.length_append]; omega)) (gives_own fun v W hv => ?_)
    have := cut_there v fs A B f logN (recsL ts).length W hv hs h.good T (by omega)
    rw [S.eq, List.take_left, T.nm] at this
    exact this

theorem keepL_at {z : Int} : ∀ {ts : List WTxn} {k : Nat} {t : WTxn}, ts[k]? = some t → (k < (keepL z ts).length → t.z ≤ z) ∧ (k = (keepL z ts).length → ¬ t.z ≤ z)
  | [], k, t, h => by simp at h
  | x :: l, 0, t, h => by
    simp at h
    subst h
    unfold keepL
    by_cases hx : x.z ≤ z
    · rw [List.takeWhile_cons_of_pos (by simpa using hx)]; simp [hx]
    · rw [List.takeWhile_cons_of_neg (by simpa using hx)]; simp; omega
  | x :: l, k + 1, t, h => by
    have ih := keepL_at (z := z) (ts := l) (k := k) (t := t) (by simpa using h)
    unfold keepL at ih ⊢
    by_cases hx : x.z ≤ z
    · rw [List.takeWhile_cons_of_pos (by simpa using hx)]; simpa using ih
    · rw [List.takeWhile_cons_of_neg (by simpa using hx)]; simp
theorem keepL_is (z : Int) (ts : List WTxn) : ts.take (keepL z ts).length = keepL z ts ∧ (keepL z ts).length ≤ ts.length := by
  obtain ⟨b, e⟩ := keepL_split z ts
  generalize keepL z ts = a at *
  subst e
  simp
theorem recs_take_le (ts : List WTxn) (k : Nat) : (recsL (ts.take k)).length ≤ (recsL ts).length := by
  have : recsL ts = recsL (ts.take k) ++ recsL (ts.drop k) := by rw [← recsL_append, List.take_append_drop]
  rw [this]; simp

theorem ret_n {i j : Nat} (h : i = j) : Ending.returned (.int .i64 (i : Int)) = .returned (.int .i64 (j : Int)) := by rw [h]

set_option maxRecDepth 10000 in
set_option maxHeartbeats 1000000 in
theorem upTo_any (v : Value) (ts : List WTxn) (z : Int) (w : World) (hv : LogV w v ts) (hL : ∀ t ∈ ts, gdE t = 0) (hs : (recsL ts).length ≤ 1048576) :
    Calls Tryz.prog 125 #[v, .int .i64 z] w fun e w' => e = .returned (.int .i64 ((recsL (keepL z ts)).length : Nat)) ∧ Below w.heap.size w w' := by
  have hlen := recsL_ge ts
  have HV := hide hv
  have HG := hide hL
  have HK := hide (keepL_is z ts)
  have HA := hide (fun k t h => keepL_at (z := z) (ts := ts) (k := k) (t := t) h)
  have hK := (keepL_is z ts).2
  generalize keepL z ts = K at *
  obtain ⟨a, c, rfl⟩ := log_slice hv
  clear hv hL
  go_enter Tryz.func125, Tryz.ntmps125
  go_wp2_with fail
  go_loopg [5, 12] ts.length (fun kx s5 s12 wr => ∃ (k N : Nat), s5 = .int .i64 N ∧ s12 = .int .i64 k ∧ k ≤ K.length ∧ ts.length - k ≤ kx ∧ Hid ((recsL (ts.take k)).length = N) ∧ Hid (Below w.heap.size w wr))
  case atStart => exact ⟨0, 0, rfl, rfl, Nat.zero_le _, by omega, hide rfl, hide (Below.refl _ _)⟩
  case round =>
    obtain ⟨k, N, rfl, rfl, hk, hkx, HN, HB⟩ := hrel
    by_cases hlt : k < ts.length
    · obtain ⟨t, ht⟩ : ∃ t, ts[k]? = some t := ⟨_, List.getElem?_eq_getElem hlt⟩
      obtain ⟨b, off, cap, he, hb, hr, _, _, _⟩ := log_row ((unhide HV).next (unhide HB)) ht
      simp only [Value.slice.injEq, true_and] at he
      obtain ⟨rfl, rfl⟩ := he
      have e0 := hr.z ht
      have e1 := hr.o ht
      have e2 := hr.s ht
      have e3 := hr.p ht
      have e4 := hr.d ht
      have e5 := hr.v ht
      have e6 := hr.w ht
      have hlti : (k : Int) < (ts.length : Int) := by omega
      have hg := unhide HG t (List.mem_of_getElem? ht)
      have C := fun W => encode_yes t W hg
      have hat := unhide HA k t ht
      have HL := hide (take_more1 ht)
      have hN1 := recs_take_le ts (k + 1)
      rw [take_more1 ht, recsL_snoc, List.length_append, unhide HN] at hN1
      clear hr ht hb hg
      obtain ⟨R, hR⟩ : ∃ R, recL t = R := ⟨_, rfl⟩
      rw [hR] at C hN1
      have HR := hide hR
      have hzR : (ByteArray.mk R.toArray).size = R.length := Lib.size_eq ⟨R.toArray⟩
      clear hR
      have HB2 := fun o => hide ((unhide HB).alloc (unhide HB).size o)
      obtain ⟨z1, o1, s1, p1, d1, y1, u1⟩ := t
      unfold txnV at C
      simp only at e0 e1 e2 e3 e4 e5 e6
      by_cases hlK : k < K.length
      · have hz' : ¬ z < z1 := by have hz : z1 ≤ z := hat.1 hlK; omega
        clear hat
        go_wp2_with fail
        refine (C _).mono ?_
        rintro e w1 ⟨rfl, hb1⟩
        have HB3 := hide (below_next2 (unhide (HB2 _)) hb1)
        clear C hb1 HB2 e0 e1 e2 e3 e4 e5 e6
        go_wp2_with fail
        go_roundg (ts.length - (k + 1))
        case measure => omega
        case rel => exact ⟨k + 1, N + R.length, by simp, by simp, by omega, Nat.le_refl _, hide (by rw [unhide HL, recsL_snoc, List.length_append, unhide HN, unhide HR]), HB3⟩
      · have hz' : z < z1 := hat.2 (by omega)
        have hN2 : (recsL K).length = N := by rw [← (unhide HK).1, show K.length = k from by omega]; exact unhide HN
        have HN2 := hide hN2
        clear hat hN2 C
        go_wp2_with fail
        go_ret
        exact ⟨ret_n (unhide HN2).symm, unhide (HB2 _)⟩
    · have hki : ¬ ((k : Int) < (ts.length : Int)) := by omega
      have hN2 : (recsL K).length = N := by rw [← (unhide HK).1, show K.length = k from by omega]; exact unhide HN
      have HN2 := hide hN2
      clear hN2
      go_wp2_with fail
      go_ret
      exact ⟨ret_n (unhide HN2).symm, unhide HB⟩
end Go.Proofs.YtaoflcmeiaffjaaGreatDoor

namespace Go.Proofs.YtaoflcmeiaffjaaGreatDoor
open Go.RowKit

theorem lastZ_more {ts : List WTxn} {k : Nat} {t : WTxn} (h : ts[k]? = some t) : lastZ (ts.take (k + 1)) = t.z := by rw [take_more1 h, lastZ_snoc]
set_option maxRecDepth 10000 in
set_option maxHeartbeats 1000000 in
theorem rlast_any (v : Value) (ts : List WTxn) (w : World) (hv : LogV w v ts) :
    Calls Tryz.prog 53 #[v] w fun e w' => e = .returned (.int .i64 (lastZ ts)) ∧ Below w.heap.size w w' := by
  have hlen : ts.length ≤ 9223372036854775807 := by
    rcases hv with ⟨a, cap, rfl, rfl, _⟩ | ⟨b, off, cap, rfl, h1, h2, _⟩
    · simp
    · simp only [maxLen] at h2; omega
  have HV := hide hv
  obtain ⟨a, c, rfl⟩ := log_slice hv
  clear hv
  go_enter Tryz.func53, Tryz.ntmps53
  go_wp2_with fail
  go_loopg [3, 8] ts.length (fun kx s3 s8 wr => ∃ (k : Nat) (z : Int), s3 = .int .i64 z ∧ s8 = .int .i64 k ∧ k ≤ ts.length ∧ ts.length - k ≤ kx ∧ Hid (lastZ (ts.take k) = z) ∧ Hid (Below w.heap.size w wr))
  case atStart => exact ⟨0, 0, rfl, rfl, Nat.zero_le _, by omega, hide rfl, hide (Below.refl _ _)⟩
  case round =>
    obtain ⟨k, z, rfl, rfl, hk, hkx, HZ, HB⟩ := hrel
    by_cases hlt : k < ts.length
    · obtain ⟨t, ht⟩ : ∃ t, ts[k]? = some t := ⟨_, List.getElem?_eq_getElem hlt⟩
      obtain ⟨b, off, cap, he, hb, hr, _, _, _⟩ := log_row ((unhide HV).next (unhide HB)) ht
      simp only [Value.slice.injEq, true_and] at he
      obtain ⟨rfl, rfl⟩ := he
      have e0 := hr.z ht
      have e1 := hr.o ht
      have e2 := hr.s ht
      have e3 := hr.p ht
      have e4 := hr.d ht
      have e5 := hr.v ht
      have e6 := hr.w ht
      have hlti : (k : Int) < (ts.length : Int) := by omega
      have HL := hide (lastZ_more ht)
      have hk63 : k < 9223372036854775807 := by omega
      have HB2 := fun o => hide ((unhide HB).alloc (unhide HB).size o)
      clear hr ht hb
      go_wp2_with fail
      go_roundg (ts.length - (k + 1))
      case measure => omega
      case rel => exact ⟨k + 1, t.z, rfl, by simp, by omega, Nat.le_refl _, HL, HB2 _⟩
    · obtain rfl : k = ts.length := by omega
      have hki : ¬ ((ts.length : Int) < (ts.length : Int)) := by omega
      have hz : lastZ ts = z := by have := unhide HZ; rwa [List.take_length] at this
      have HZ2 := hide hz
      clear hz
      go_wp2_with fail
      go_ret
      rw [unhide HZ2]
      exact ⟨rfl, unhide HB⟩

/-- what aviaryref.Decode does -/
def RDecOk : Prop := ∀ (s : List UInt8) (w : World), s.length ≤ 1048576 →
    Calls Tryz.prog 128 #[.string ⟨s.toArray⟩] w fun e w' => e = .returned (.tuple #[txnV (decT s), .int .i64 (decN s), .int .i64 (decE s)]) ∧ Below w.heap.size w w'
/-- what stands at each round of aviaryref.Scan -/
structure RSc (w W : World) (g : Nat) (v : Value) (ts : List WTxn) : Prop where
  below : Below w.heap.size w W
  own : OwnL W (g + 1) v ts
  at_ : ∃ t, TxnAt W g t
  le : w.heap.size ≤ g
theorem RSc.next {w W V : World} {g : Nat} {v : Value} {ts : List WTxn} (h : RSc w W g v ts) (hb : Below W.heap.size W V) : RSc w V g v ts := by
  obtain ⟨t, ht⟩ := h.at_
  exact ⟨below_next2 h.below hb, h.own.next hb, ⟨t, ht.kept hb (by unfold TxnAt at ht; exact (Array.getElem?_eq_some_iff.1 ht).1)⟩, h.le⟩
theorem OwnL.other {W V : World} {B g : Nat} {v : Value} {ts : List WTxn} (h : OwnL W B v ts) (ho : Only g W V) (hg : g < B) : OwnL V B v ts := by
  obtain ⟨hl, h | ⟨q, cap, cur, e, hB, hq, hr⟩⟩ := h
  · exact ⟨hl, .inl h⟩
  · exact ⟨hl, .inr ⟨q, cap, cur, e, hB, (ho.block _ (by omega)).trans hq, hr⟩⟩
theorem RSc.put {w W : World} {g : Nat} {v : Value} {ts : List WTxn} (h : RSc w W g v ts) (t : WTxn) : RSc w (putTxn W g t) g v ts ∧ TxnAt (putTxn W g t) g t := by
  obtain ⟨t', ht⟩ := h.at_
  exact ⟨⟨(only_put W g t).below h.below h.le, h.own.other (only_put W g t) (Nat.lt_succ_self g), ⟨t, ht.store t⟩, h.le⟩, ht.store t⟩
end Go.Proofs.YtaoflcmeiaffjaaGreatDoor

namespace Go.Proofs.YtaoflcmeiaffjaaGreatDoor
open Go.RowKit

theorem scan_nil {s r : List UInt8} (S : Scan s [] r) : decE s ≠ 0 := by
  have e : s = r := by rw [S.eq]; rfl
  subst e
  rcases S.stop with h | h
  · exact h
  · rw [follB_nil] at h; cases h
theorem last_at {ts : List WTxn} {j : Nat} {x : WTxn} (hl : ts.length = j + 1) (hx : ts[j]? = some x) : lastZ ts = x.z := by
  obtain ⟨m, y, rfl⟩ := snoc_of (l := ts) (by omega)
  have : m.length = j := by simpa using hl
  subst this
  simp at hx
  rw [lastZ_snoc, hx]
set_option maxRecDepth 10000 in
set_option maxHeartbeats 1000000 in
theorem rscan_nil (CD : RDecOk) (s : List UInt8) (w : World) (h : decE s ≠ 0) (hs : s.length ≤ 1048576) :
    Calls Tryz.prog 70 #[.string ⟨s.toArray⟩] w fun e w' => ∃ v, e = .returned (.tuple #[v, .int .i64 (0 : Nat)]) ∧ LogV w' v [] ∧ Below w.heap.size w w' := by
  have C := fun W => CD s W hs
  have hne : (decE s != 0) = true := by simpa using h
  generalize decE s = E at *
  generalize decN s = D at *
  obtain ⟨t, ht⟩ : ∃ t, decT s = t := ⟨_, rfl⟩
  rw [ht] at C
  clear ht CD h
  obtain ⟨z, o, s1, p, d, y, u⟩ := t
  unfold txnV at C
  go_enter Tryz.func70, Tryz.ntmps70
  go_wp2_with fail
  refine (C _).mono ?_
  rintro e w1 ⟨rfl, hb1⟩
  have HB := hide (below_next2 hb1 ((Below.refl w1.heap.size w1).alloc (Nat.le_refl _) (.cells #[.int .i64 z, .int .i64 o, .int .i64 s1, .string ⟨p.toArray⟩, .string ⟨d.toArray⟩, .int .i64 y, .int .i64 u] 47)))
  clear C hb1
  go_wp2_with fail
  go_ret2
  exact ⟨_, rfl, LogV.nil _, unhide HB⟩

theorem rsc_start (w w1 : World) (t : WTxn) (hb : Below w.heap.size w w1) : RSc w ((w1.alloc (.cells #[.int .i64 t.z, .int .i64 t.o, .int .i64 t.s, .string ⟨t.p.toArray⟩, .string ⟨t.d.toArray⟩, .int .i64 t.v, .int .i64 t.w] 47)).alloc (.cells #[.int .i64 t.z, .int .i64 t.o, .int .i64 t.s, .string ⟨t.p.toArray⟩, .string ⟨t.d.toArray⟩, .int .i64 t.v, .int .i64 t.w] 47)) w1.heap.size (.slice (some ⟨w1.heap.size + 1, 0, none⟩) 1 1) [t] := by
  have b1 := (Below.refl w1.heap.size w1).alloc (Nat.le_refl _) (.cells #[.int .i64 t.z, .int .i64 t.o, .int .i64 t.s, .string ⟨t.p.toArray⟩, .string ⟨t.d.toArray⟩, .int .i64 t.v, .int .i64 t.w] 47)
  have h1 : TxnAt _ _ t := heap_new w1 (.cells #[.int .i64 t.z, .int .i64 t.o, .int .i64 t.s, .string ⟨t.p.toArray⟩, .string ⟨t.d.toArray⟩, .int .i64 t.v, .int .i64 t.w] 47)
  have hz : (w1.alloc (.cells #[.int .i64 t.z, .int .i64 t.o, .int .i64 t.s, .string ⟨t.p.toArray⟩, .string ⟨t.d.toArray⟩, .int .i64 t.v, .int .i64 t.w] 47)).heap.size = w1.heap.size + 1 := by simp
  generalize w1.alloc (.cells #[.int .i64 t.z, .int .i64 t.o, .int .i64 t.s, .string ⟨t.p.toArray⟩, .string ⟨t.d.toArray⟩, .int .i64 t.v, .int .i64 t.w] 47) = W at *
  have b2 := (Below.refl W.heap.size W).alloc (Nat.le_refl _) (.cells #[.int .i64 t.z, .int .i64 t.o, .int .i64 t.s, .string ⟨t.p.toArray⟩, .string ⟨t.d.toArray⟩, .int .i64 t.v, .int .i64 t.w] 47)
  have h2 := heap_new W (.cells #[.int .i64 t.z, .int .i64 t.o, .int .i64 t.s, .string ⟨t.p.toArray⟩, .string ⟨t.d.toArray⟩, .int .i64 t.v, .int .i64 t.w] 47)
  rw [hz] at h2
  refine ⟨below_next2 (below_next2 hb b1) b2, ⟨rfl, .inr ⟨w1.heap.size + 1, 1, _, rfl, Nat.le_refl _, h2, by simp, by decide, rfl, ?_⟩⟩, ⟨t, h1.kept b2 (by omega)⟩, hb.size⟩
  simp [cellsT, tcells]

theorem RSc.grown {w W V : World} {g k c : Nat} {a : Option Addr} {ts : List WTxn} {t : WTxn} {O : Obj} {v' : Value} (h : RSc w W g (.slice a k c) ts) (hk : ts.length = k)
    (hown : V.ownsRow (g + 1) 47 7 v' (k + 1) (cellsT ts ++ tcells t)) (hg : (W.alloc O).grownBy V (Value.slice a k c).ownBlock) :
    ∃ a' c', v' = .slice a' (k + 1) c' ∧ RSc w V g (.slice a' (k + 1) c') (ts ++ [t]) := by
  obtain ⟨a', c', rfl, h1, h2⟩ := app_done h.below h.own (by have := h.le; omega) hk hown hg
  obtain ⟨t9, h9⟩ := h.at_
  have hlt : g < W.heap.size := by unfold TxnAt at h9; exact (Array.getElem?_eq_some_iff.1 h9).1
  have hz : (W.alloc O).heap.size = W.heap.size + 1 := by simp
  have h9' : TxnAt (W.alloc O) g t9 := h9.kept ((Below.refl W.heap.size W).alloc (Nat.le_refl _) O) hlt
  have hq : some g ≠ (Value.slice a k c).ownBlock := fun e => by have := (ownl_block h.own g e.symm).1; omega
  exact ⟨a', c', rfl, h2, h1, ⟨t9, (hg.block g (by omega) hq).trans h9'⟩, h.le⟩

set_option maxRecDepth 10000 in
set_option maxHeartbeats 2000000 in
theorem rscan_some (CD : RDecOk) (s r : List UInt8) (t : WTxn) (us : List WTxn) (w : World) (S : Scan s (t :: us) r) (hs : s.length ≤ 1048576) :
    Calls Tryz.prog 70 #[.string ⟨s.toArray⟩] w fun e w' => ∃ v, e = .returned (.tuple #[v, .int .i64 ((recsL (t :: us)).length : Nat)]) ∧ LogV w' v (t :: us) ∧ Below w.heap.size w w' := by
  obtain ⟨i0, hi0, hz0, hz1, hz2⟩ := info_txn
  have hzs : (ByteArray.mk s.toArray).size = s.length := Lib.size_eq ⟨s.toArray⟩
  have C := fun W => CD s W hs
  have hg := (S.log.good t (by simp))
  have hdr := dec_rec hg (recsL us ++ r)
  rw [← List.append_assoc, ← recsL, ← S.eq] at hdr
  rw [hdr.1, hdr.2.1, hdr.2.2] at C
  obtain ⟨ts, hts'⟩ : ∃ ts, t :: us = ts := ⟨_, rfl⟩
  have ht0 : ts[0]? = some t := by rw [← hts']; rfl
  have hl1 : 1 ≤ ts.length := by rw [← hts']; simp
  have htk : ts.take 1 = [t] := by rw [← hts']; simp
  rw [hts'] at S ⊢
  have hts : ts.length * 31 ≤ 1048576 := by have := recsL_ge ts; have := S.len; omega
  obtain ⟨L0, hL0⟩ : ∃ L, (recL t).length = L := ⟨_, rfl⟩
  rw [hL0] at C
  have HN0 : Hid ((recsL (ts.take 1)).length = L0) := hide (by rw [htk]; simp [recsL, hL0])
  have HTK := hide htk
  have HS := hide S
  have HCD := hide CD
  clear S CD hdr hg hL0 hts' ht0 htk
  obtain ⟨z, o, s1, p, d, y, u⟩ := t
  unfold txnV at C
  go_enter Tryz.func70, Tryz.ntmps70
  go_wp2_with fail
  refine (C _).mono ?_
  rintro e w1 ⟨rfl, hb1⟩
  have HR0 := hide (rsc_start w w1 ⟨z, o, s1, p, d, y, u⟩ hb1)
  clear C hb1
  go_wp2_with fail
  generalize (w1.alloc (.cells #[.int .i64 z, .int .i64 o, .int .i64 s1, .string ⟨p.toArray⟩, .string ⟨d.toArray⟩, .int .i64 y, .int .i64 u] 47)).alloc (.cells #[.int .i64 z, .int .i64 o, .int .i64 s1, .string ⟨p.toArray⟩, .string ⟨d.toArray⟩, .int .i64 y, .int .i64 u] 47) = W1 at *
  generalize w1.heap.size = g at *
  rw [← unhide HTK] at HR0
  clear HTK
  go_loopg [7, 8] ts.length (fun kx s7 s8 wr => ∃ (j N : Nat) (a : Option Addr) (c : Nat), s7 = .slice a (j + 1) c ∧ s8 = .int .i64 N ∧ j + 1 ≤ ts.length ∧ ts.length - j ≤ kx ∧ Hid ((recsL (ts.take (j + 1))).length = N) ∧ Hid (RSc w wr g (.slice a (j + 1) c) (ts.take (j + 1))))
  case atStart => exact ⟨0, L0, _, _, rfl, rfl, hl1, by omega, HN0, HR0⟩
  case round =>
    clear HR0 HN0

    obtain ⟨j, N, a, c, rfl, rfl, hk, hkx, HN, hI⟩ := hrel
    have h1 := scan_at (unhide HS) (j + 1)
    rw [unhide HN] at h1
    obtain ⟨hd, hNs⟩ := h1
    have hx : (ByteArray.mk s.toArray).extract N s.length = ⟨(s.drop N).toArray⟩ := ex_back s N
    have hMl : (ts.take (j + 1)).length = j + 1 := by simp; omega
    have C := fun W => unhide HCD (s.drop N) W (by rw [List.length_drop]; omega)
    by_cases hlt : j + 1 < ts.length
    · obtain ⟨t, ht⟩ : ∃ t, ts[j + 1]? = some t := ⟨_, List.getElem?_eq_getElem hlt⟩
      have hgf := logs_at (unhide HS).log ht
      rw [drop_more1 ht, recsL, List.append_assoc] at hd
      have hdr := dec_rec hgf.1 (recsL (ts.drop (j + 1 + 1)) ++ r)
      rw [← hd] at hdr
      rw [hdr.1, hdr.2.1, hdr.2.2] at C
      have hrl := recL_le hgf.1
      have hNN := scan_at (unhide HS) (j + 1 + 1)
      rw [take_more1 ht, recsL_snoc, List.length_append, unhide HN] at hNN
      have hNL := hNN.2
      have hfo := hgf.2
      rw [follB_some (by omega)] at hfo
      have HFO := hide (of_decide_eq_true hfo)
      have HT := hide (take_more1 ht)
      have HM := hide hMl
      clear hd hdr hgf hNN hMl ht hfo
      obtain ⟨Y, hY⟩ : ∃ Y, s.drop N = Y := ⟨_, rfl⟩
      rw [hY] at hx C
      obtain ⟨L, hL⟩ : ∃ L, (recL t).length = L := ⟨_, rfl⟩
      rw [hL] at C hNL hrl
      have HL := hide hL
      obtain ⟨M, hM⟩ : ∃ M, ts.take (j + 1) = M := ⟨_, rfl⟩
      rw [hM] at hI HT HM HN HFO
      clear hY hL hM
      obtain ⟨z, o, s1, p, d, y, u⟩ := t
      unfold txnV at C
      go_wp2_with fail
      refine (C _).mono ?_
      rintro e w2 ⟨rfl, hb2⟩
      have R2 := (unhide hI).next hb2
      obtain ⟨t9, T9⟩ := R2.at_
      have f0 := T9.f
      have q0 := T9.c0
      have q1 := T9.c1
      have q2 := T9.c2
      have q3 := T9.c3
      have q4 := T9.c4
      have q5 := T9.c5
      have q6 := T9.c6
      have P2 := R2.put ⟨z, o, s1, p, d, y, u⟩
      simp only [putTxn] at P2
      have HP := hide P2
      clear C hb2 hI R2 T9 P2
      go_wp2_with fail
      generalize (((((((w2.setCell ⟨g, 0, none⟩ (.int .i64 z)).setCell ⟨g, 1, none⟩ (.int .i64 o)).setCell ⟨g, 2, none⟩ (.int .i64 s1)).setCell ⟨g, 3, none⟩ (.string ⟨p.toArray⟩)).setCell ⟨g, 4, none⟩ (.string ⟨d.toArray⟩)).setCell ⟨g, 5, none⟩ (.int .i64 y)).setCell ⟨g, 6, none⟩ (.int .i64 u)) = V at *
      clear f0 q0 q1 q2 q3 q4 q5 q6
      obtain ⟨x, hx0⟩ : ∃ x, M[j]? = some x := ⟨_, List.getElem?_eq_getElem (by rw [unhide HM]; omega)⟩
      obtain ⟨b, off, cap, he, hb, hr, _, _, hcm⟩ := log_row (unhide HP).1.own.log hx0
      rw [unhide HM] at he
      simp only [Value.slice.injEq, true_and] at he
      obtain ⟨rfl, rfl⟩ := he
      have ex := hr.z hx0
      have tz := (unhide HP).2.c0
      have hj : j < 9223372036854775807 := by simp only [maxLen] at hcm; omega
      have hcmp : ¬ (z ≤ x.z) := by have h : lastZ M < z := unhide HFO; rw [last_at (unhide HM) hx0] at h; omega
      clear hr hx0 hb hcm
      go_region
      have HRW := hide (app_row ((unhide HP).1.own.next (Below.refl _ _).drew) (unhide HM))
      have HC2 := hide (wapp_new V.drew ⟨z, o, s1, p, d, y, u⟩)
      have T3 := (unhide HP).2
      have HP2 := hide ((unhide HP).1.next (Below.refl _ _).drew)
      have c0 := T3.c0
      have c1 := T3.c1
      have c2 := T3.c2
      have c3 := T3.c3
      have c4 := T3.c4
      have c5 := T3.c5
      have c6 := T3.c6
      clear T3
      have h4 : Hid (j + 1 + 1 ≤ maxLen) := by unfold Hid; simp only [maxLen]; omega
      have h5 : Hid ((j + 1 + 1) * 72 ≤ 140737488355328) := by unfold Hid; omega
      have h6 : Hid (∀ O1, g + 1 ≤ (V.drew.alloc O1).heap.size) := fun O1 => by
        obtain ⟨t9, h9⟩ := (unhide HP2).at_
        unfold TxnAt at h9
        have := (Array.getElem?_eq_some_iff.1 h9).1
        simp at this ⊢; omega
      go_wp2_with (at_builtin; refine wpList_append_own _ rfl _ _ 25 rfl (g + 1) 47 i0 _ 7 72 Tryz.underlying25 hi0 hz0 hz1 hz2 rfl (by decide) _ (j + 1) (cellsT M) rfl (unhide HRW _ _ rfl) ⟨V.heap.size, 0, none⟩ 1 1 (tcells ⟨z, o, s1, p, d, y, u⟩) rfl rfl (unhide HC2) (tcells_one _) (unhide h4) (unhide h5) (unhide h6 _) ?_)
      intro v' w5 hown hgrow _
      obtain ⟨a5, cc5, rfl, hr5⟩ := (unhide HP2).grown (unhide HM) hown hgrow
      have HZ := hide hr5
      clear hown hgrow hr5 HRW HC2 h4 h5 h6 HP HP2 c0 c1 c2 c3 c4 c5 c6 ex tz
      go_wp2_with fail
      go_roundg (ts.length - (j + 1))
      case measure => omega
      case rel => exact ⟨j + 1, N + L, a5, cc5, rfl, by simp, by omega, Nat.le_refl _, hide (by rw [unhide HT, recsL_snoc, List.length_append, unhide HN, unhide HL]), hide (by rw [unhide HT]; exact unhide HZ)⟩
    · have hlen : ts.length = j + 1 := by omega
      have htt : ts.take (j + 1) = ts := List.take_of_length_le (by omega)
      have hdd : ts.drop (j + 1) = [] := List.drop_of_length_le (by omega)
      rw [hdd, show recsL [] = [] from rfl, List.nil_append] at hd
      rw [hd] at C hx
      rw [htt] at hI hMl HN
      have hst := (unhide HS).stop
      have HM := hide hMl
      have HN2 := HN
      clear hd hMl hlt HN htt hdd
      clear hlen
      by_cases he : decE r = 0
      · have hf : follB ts (decT r) = false := by
          rcases hst with h | h
          · exact absurd he h
          · exact h
        rw [follB_some (by rw [unhide HM]; omega)] at hf
        have HFO := hide (of_decide_eq_false hf)
        rw [he] at C
        clear hst hf
        obtain ⟨D, hD⟩ : ∃ D, decN r = D := ⟨_, rfl⟩
        rw [hD] at C
        clear hD he
        obtain ⟨t, ht⟩ : ∃ t, decT r = t := ⟨_, rfl⟩
        rw [ht] at C HFO
        clear ht
        obtain ⟨z, o, s1, p, d, y, u⟩ := t
        unfold txnV at C
        go_wp2_with fail
        refine (C _).mono ?_
        rintro e w2 ⟨rfl, hb2⟩
        have R2 := (unhide hI).next hb2
        obtain ⟨t9, T9⟩ := R2.at_
        have f0 := T9.f
        have q0 := T9.c0
        have q1 := T9.c1
        have q2 := T9.c2
        have q3 := T9.c3
        have q4 := T9.c4
        have q5 := T9.c5
        have q6 := T9.c6
        have P2 := R2.put ⟨z, o, s1, p, d, y, u⟩
        simp only [putTxn] at P2
        have HP := hide P2
        clear C hb2 hI R2 T9 P2
        go_wp2_with fail
        generalize (((((((w2.setCell ⟨g, 0, none⟩ (.int .i64 z)).setCell ⟨g, 1, none⟩ (.int .i64 o)).setCell ⟨g, 2, none⟩ (.int .i64 s1)).setCell ⟨g, 3, none⟩ (.string ⟨p.toArray⟩)).setCell ⟨g, 4, none⟩ (.string ⟨d.toArray⟩)).setCell ⟨g, 5, none⟩ (.int .i64 y)).setCell ⟨g, 6, none⟩ (.int .i64 u)) = V at *
        clear f0 q0 q1 q2 q3 q4 q5 q6
        obtain ⟨x, hx0⟩ : ∃ x, ts[j]? = some x := ⟨_, List.getElem?_eq_getElem (by rw [unhide HM]; omega)⟩
        obtain ⟨b, off, cap, he, hb, hr, _, _, hcm⟩ := log_row (unhide HP).1.own.log hx0
        rw [unhide HM] at he
        simp only [Value.slice.injEq, true_and] at he
        obtain ⟨rfl, rfl⟩ := he
        have ex := hr.z hx0
        have tz := (unhide HP).2.c0
        have hj : j < 9223372036854775807 := by simp only [maxLen] at hcm; omega
        have hcmp : z ≤ x.z := by have h : z ≤ lastZ ts := unhide HFO; rw [last_at (unhide HM) hx0] at h; omega
        have HF := hide (And.intro ((unhide HP).1.next (Below.refl _ _).drew).own.log ((unhide HP).1.next (Below.refl _ _).drew).below)
        clear hr hx0 hb hcm
        go_region
        go_wp2_with fail
        go_ret2
        exact ⟨_, ret_vn (unhide HN2).symm, (unhide HF).1, (unhide HF).2⟩
      · have hne : (decE r != 0) = true := by simpa using he
        clear hst he
        obtain ⟨D, hD⟩ : ∃ D, decN r = D := ⟨_, rfl⟩
        rw [hD] at C
        clear hD
        obtain ⟨E, hE⟩ : ∃ E, decE r = E := ⟨_, rfl⟩
        rw [hE] at C hne
        clear hE
        obtain ⟨t, ht⟩ : ∃ t, decT r = t := ⟨_, rfl⟩
        rw [ht] at C
        clear ht
        obtain ⟨z, o, s1, p, d, y, u⟩ := t
        unfold txnV at C
        go_wp2_with fail
        refine (C _).mono ?_
        rintro e w2 ⟨rfl, hb2⟩
        have R2 := (unhide hI).next hb2
        obtain ⟨t9, T9⟩ := R2.at_
        have f0 := T9.f
        have q0 := T9.c0
        have q1 := T9.c1
        have q2 := T9.c2
        have q3 := T9.c3
        have q4 := T9.c4
        have q5 := T9.c5
        have q6 := T9.c6
        have P2 := R2.put ⟨z, o, s1, p, d, y, u⟩
        simp only [putTxn] at P2
        have HP := hide P2
        clear C hb2 hI R2 T9 P2
        go_wp2_with fail
        generalize (((((((w2.setCell ⟨g, 0, none⟩ (.int .i64 z)).setCell ⟨g, 1, none⟩ (.int .i64 o)).setCell ⟨g, 2, none⟩ (.int .i64 s1)).setCell ⟨g, 3, none⟩ (.string ⟨p.toArray⟩)).setCell ⟨g, 4, none⟩ (.string ⟨d.toArray⟩)).setCell ⟨g, 5, none⟩ (.int .i64 y)).setCell ⟨g, 6, none⟩ (.int .i64 u)) = V at *
        clear f0 q0 q1 q2 q3 q4 q5 q6
        have HF := hide (And.intro ((unhide HP).1.next (Below.refl _ _).drew).own.log ((unhide HP).1.next (Below.refl _ _).drew).below)
        go_region
        go_wp2_with fail
        go_ret2
        exact ⟨_, ret_vn (unhide HN2).symm, (unhide HF).1, (unhide HF).2⟩

theorem rscan_of (CD : RDecOk) (s r : List UInt8) (ts : List WTxn) (w : World) (S : Scan s ts r) (hs : s.length ≤ 1048576) :
    Calls Tryz.prog 70 #[.string ⟨s.toArray⟩] w fun e w' => ∃ v, e = .returned (.tuple #[v, .int .i64 ((recsL ts).length : Nat)]) ∧ LogV w' v ts ∧ Below w.heap.size w w' := by
  cases ts with
  | nil => exact rscan_nil CD s w (scan_nil S) hs
  | cons t us => exact rscan_some CD s r t us w S hs
end Go.Proofs.YtaoflcmeiaffjaaGreatDoor

namespace Go.Proofs.YtaoflcmeiaffjaaGreatDoor
open Go.RowKit

def tOpen : WTxn := ⟨1, 1, 1, [], [], 0, 0⟩
theorem wgd_open : gdE tOpen = 0 := by decide +kernel

end Go.Proofs.YtaoflcmeiaffjaaGreatDoor

namespace Go.Proofs.YtaoflcmeiaffjaaGreatDoor
open Go.RowKit
set_option maxRecDepth 10000 in

set_option maxHeartbeats 400000 in
theorem in_any (n k : Int) (w : World) :
    Calls Tryz.prog 158 #[.int .i64 n, .int .i64 k] w fun e w' => e = .returned (.bool (cntB n k)) ∧ w' = w := by
  go_enter Tryz.func158, Tryz.ntmps158
  go_wp2
  all_goals go_ret
  all_goals exact ⟨zret_bool (by rw [Bool.eq_iff_iff, cntB_iff]; simp; try omega), rfl⟩

theorem gd_of {t : WTxn} (h : opB t.o = true) (h1 : numB t = true) (h2 : t.d.length ≤ 256) : gdE t = if fmB t then 0 else 2 := by simp [gdE, h, h1, h2]

theorem drewN_below {w : World} {n : Nat} : Below w.heap.size w (w.drewN n) := ⟨rfl, rfl, rfl, Nat.le_refl _, fun _ _ => rfl⟩
theorem drawn_box {w : World} {o : Obj} {n : Nat} : Below w.heap.size w ((w.alloc o).drewN n) :=
  ((Below.refl _ _).alloc (Nat.le_refl _) _).trans (drewN_below.mono (by simp))
theorem drawn_then {w : World} {o : Obj} {n : Nat} {w2 : World} (h : Below ((w.alloc o).drewN n).heap.size ((w.alloc o).drewN n) w2) : Below w.heap.size w w2 :=
  below_next drawn_box h

set_option maxRecDepth 10000 in
set_option maxHeartbeats 1000000 in
theorem rgd_1 (z s : Int) (p d : List UInt8) (v u : Int) (w : World) (hz : z ≤ 9223372036854775807) (hd : d.length ≤ 256) (hn : numB ⟨z, 1, s, p, d, v, u⟩ = true) :
    Calls Tryz.prog 119 #[.agg #[.int .i64 z, .int .i64 1, .int .i64 s, .string ⟨p.toArray⟩, .string ⟨d.toArray⟩, .int .i64 v, .int .i64 u]] w fun e w' => e = .returned (.int .i64 (gdE ⟨z, 1, s, p, d, v, u⟩)) ∧ Below w.heap.size w w' := by
  have HG : Hid (gdE ⟨z, 1, s, p, d, v, u⟩ = if (p == [] && d == [] && v == 0 && u == 0) then 0 else 2) := hide (by rw [gd_of rfl hn hd, fm_1])
  obtain ⟨G, hG⟩ : ∃ G, gdE ⟨z, 1, s, p, d, v, u⟩ = G := ⟨_, rfl⟩
  rw [hG] at HG ⊢
  clear hG
  obtain ⟨h1, h2, h3, h4⟩ := numB_iff.1 hn
  have Hz := hide h1
  have Hs := hide h2
  have Hv := hide h3
  have Hu := hide h4
  clear h1 h2 h3 h4 hn
  have hzd : (ByteArray.mk d.toArray).size = d.length := Lib.size_eq ⟨d.toArray⟩
  go_enter Tryz.func119, Tryz.ntmps119
  go_wp2_with fail
  refine (rgood_any _ hz _).mono ?_
  rintro e w1 ⟨rfl, rfl⟩
  rw [unhide Hz]
  go_wp2_with fail
  refine (in_any _ _ _).mono ?_
  rintro e w1 ⟨rfl, rfl⟩
  rw [unhide Hs]
  go_wp2_with fail
  refine (in_any _ _ _).mono ?_
  rintro e w1 ⟨rfl, rfl⟩
  rw [unhide Hv]
  go_wp2_with fail
  refine (in_any _ _ _).mono ?_
  rintro e w1 ⟨rfl, rfl⟩
  rw [unhide Hu]
  go_wp2_with fail
  go_quiet (fail)
  go_wp2_with fail
  all_goals go_ret
  all_goals (refine ⟨ret_gd ?_, drawn_box⟩; rw [unhide HG]; clear HG Hz Hs Hv Hu; simp [*]; try (rename_i hl; simpa using hl))

set_option maxRecDepth 10000 in
set_option maxHeartbeats 1000000 in
theorem rgd_2 (z s : Int) (p d : List UInt8) (v u : Int) (w : World) (hz : z ≤ 9223372036854775807) (hd : d.length ≤ 256) (hn : numB ⟨z, 2, s, p, d, v, u⟩ = true) :
    Calls Tryz.prog 119 #[.agg #[.int .i64 z, .int .i64 2, .int .i64 s, .string ⟨p.toArray⟩, .string ⟨d.toArray⟩, .int .i64 v, .int .i64 u]] w fun e w' => e = .returned (.int .i64 (gdE ⟨z, 2, s, p, d, v, u⟩)) ∧ Below w.heap.size w w' := by
  have HG : Hid (gdE ⟨z, 2, s, p, d, v, u⟩ = if (p == [] && d == [] && v == 0 && u == 0) then 0 else 2) := hide (by rw [gd_of rfl hn hd, fm_2])
  obtain ⟨G, hG⟩ : ∃ G, gdE ⟨z, 2, s, p, d, v, u⟩ = G := ⟨_, rfl⟩
  rw [hG] at HG ⊢
  clear hG
  obtain ⟨h1, h2, h3, h4⟩ := numB_iff.1 hn
  have Hz := hide h1
  have Hs := hide h2
  have Hv := hide h3
  have Hu := hide h4
  clear h1 h2 h3 h4 hn
  have hzd : (ByteArray.mk d.toArray).size = d.length := Lib.size_eq ⟨d.toArray⟩
  go_enter Tryz.func119, Tryz.ntmps119
  go_wp2_with fail
  refine (rgood_any _ hz _).mono ?_
  rintro e w1 ⟨rfl, rfl⟩
  rw [unhide Hz]
  go_wp2_with fail
  refine (in_any _ _ _).mono ?_
  rintro e w1 ⟨rfl, rfl⟩
  rw [unhide Hs]
  go_wp2_with fail
  refine (in_any _ _ _).mono ?_
  rintro e w1 ⟨rfl, rfl⟩
  rw [unhide Hv]
  go_wp2_with fail
  refine (in_any _ _ _).mono ?_
  rintro e w1 ⟨rfl, rfl⟩
  rw [unhide Hu]
  go_wp2_with fail
  go_quiet (fail)
  go_wp2_with fail
  all_goals go_ret
  all_goals (refine ⟨ret_gd ?_, drawn_box⟩; rw [unhide HG]; clear HG Hz Hs Hv Hu; simp [*]; try (rename_i hl; simpa using hl))

end Go.Proofs.YtaoflcmeiaffjaaGreatDoor

namespace Go.Proofs.YtaoflcmeiaffjaaGreatDoor
open Go.RowKit
set_option maxRecDepth 10000 in

set_option maxHeartbeats 1000000 in
theorem rgd_3 (z s : Int) (p d : List UInt8) (v u : Int) (w : World) (hz : z ≤ 9223372036854775807) (hp : p.length ≤ 1048576) (hd : d.length ≤ 256) (hn : numB ⟨z, 3, s, p, d, v, u⟩ = true) :
    Calls Tryz.prog 119 #[.agg #[.int .i64 z, .int .i64 3, .int .i64 s, .string ⟨p.toArray⟩, .string ⟨d.toArray⟩, .int .i64 v, .int .i64 u]] w fun e w' => e = .returned (.int .i64 (gdE ⟨z, 3, s, p, d, v, u⟩)) ∧ Below w.heap.size w w' := by
  have HG : Hid (gdE ⟨z, 3, s, p, d, v, u⟩ = if (goodB p && !(p == [47]) && v == 0) then 0 else 2) := hide (by rw [gd_of rfl hn hd, fm_3])
  obtain ⟨G, hG⟩ : ∃ G, gdE ⟨z, 3, s, p, d, v, u⟩ = G := ⟨_, rfl⟩
  rw [hG] at HG ⊢
  clear hG
  obtain ⟨h1, h2, h3, h4⟩ := numB_iff.1 hn
  have Hz := hide h1
  have Hs := hide h2
  have Hv := hide h3
  have Hu := hide h4
  clear h1 h2 h3 h4 hn
  have hzd : (ByteArray.mk d.toArray).size = d.length := Lib.size_eq ⟨d.toArray⟩
  cases hg : goodB p
  all_goals
    have Hg := hide hg
    clear hg
    go_enter Tryz.func119, Tryz.ntmps119
    go_wp2_with fail
    refine (rgood_any _ hz _).mono ?_
    rintro e w1 ⟨rfl, rfl⟩
    rw [unhide Hz]
    go_wp2_with fail
    refine (in_any _ _ _).mono ?_
    rintro e w1 ⟨rfl, rfl⟩
    rw [unhide Hs]
    go_wp2_with fail
    refine (in_any _ _ _).mono ?_
    rintro e w1 ⟨rfl, rfl⟩
    rw [unhide Hv]
    go_wp2_with fail
    refine (in_any _ _ _).mono ?_
    rintro e w1 ⟨rfl, rfl⟩
    rw [unhide Hu]
    go_wp2_with fail
    go_quiet (fail)
    go_wp2_with fail
    all_goals
      refine (refGood_any p _ hp).mono ?_
      rintro e w2 ⟨rfl, hb2⟩
      have hbz : Below w.heap.size w w2 := drawn_then hb2
      obtain ⟨hc, hf⟩ := bcell hb2
      rw [unhide Hg]
      go_wp2_with fail
    all_goals go_ret
    all_goals (refine ⟨ret_gd ?_, by assumption⟩; rw [unhide HG, unhide Hg]; clear HG Hg Hz Hs Hv Hu; simp [*]; try (rename_i hl; simp [‹¬p = [47]›] at hl; exact hl))

end Go.Proofs.YtaoflcmeiaffjaaGreatDoor

namespace Go.Proofs.YtaoflcmeiaffjaaGreatDoor
open Go.RowKit
set_option maxRecDepth 10000 in

set_option maxHeartbeats 1000000 in
theorem rgd_4 (z s : Int) (p d : List UInt8) (v u : Int) (w : World) (hz : z ≤ 9223372036854775807) (hp : p.length ≤ 1048576) (hd : d.length ≤ 256) (hn : numB ⟨z, 4, s, p, d, v, u⟩ = true) :
    Calls Tryz.prog 119 #[.agg #[.int .i64 z, .int .i64 4, .int .i64 s, .string ⟨p.toArray⟩, .string ⟨d.toArray⟩, .int .i64 v, .int .i64 u]] w fun e w' => e = .returned (.int .i64 (gdE ⟨z, 4, s, p, d, v, u⟩)) ∧ Below w.heap.size w w' := by
  have HG : Hid (gdE ⟨z, 4, s, p, d, v, u⟩ = if (goodB p && !(p == [47]) && d == [] && v == 0 && u == 0) then 0 else 2) := hide (by rw [gd_of rfl hn hd, fm_4])
  obtain ⟨G, hG⟩ : ∃ G, gdE ⟨z, 4, s, p, d, v, u⟩ = G := ⟨_, rfl⟩
  rw [hG] at HG ⊢
  clear hG
  obtain ⟨h1, h2, h3, h4⟩ := numB_iff.1 hn
  have Hz := hide h1
  have Hs := hide h2
  have Hv := hide h3
  have Hu := hide h4
  clear h1 h2 h3 h4 hn
  have hzd : (ByteArray.mk d.toArray).size = d.length := Lib.size_eq ⟨d.toArray⟩
  cases hg : goodB p
  all_goals
    have Hg := hide hg
    clear hg
    go_enter Tryz.func119, Tryz.ntmps119
    go_wp2_with fail
    refine (rgood_any _ hz _).mono ?_
    rintro e w1 ⟨rfl, rfl⟩
    rw [unhide Hz]
    go_wp2_with fail
    refine (in_any _ _ _).mono ?_
    rintro e w1 ⟨rfl, rfl⟩
    rw [unhide Hs]
    go_wp2_with fail
    refine (in_any _ _ _).mono ?_
    rintro e w1 ⟨rfl, rfl⟩
    rw [unhide Hv]
    go_wp2_with fail
    refine (in_any _ _ _).mono ?_
    rintro e w1 ⟨rfl, rfl⟩
    rw [unhide Hu]
    go_wp2_with fail
    go_quiet (fail)
    go_wp2_with fail
    all_goals
      refine (refGood_any p _ hp).mono ?_
      rintro e w2 ⟨rfl, hb2⟩
      have hbz : Below w.heap.size w w2 := drawn_then hb2
      obtain ⟨hc, hf⟩ := bcell hb2
      rw [unhide Hg]
      go_wp2_with fail
    all_goals go_ret
    all_goals (refine ⟨ret_gd ?_, by assumption⟩; rw [unhide HG, unhide Hg]; clear HG Hg Hz Hs Hv Hu; simp [*]; try (rename_i hl; simp [‹¬p = [47]›] at hl; exact hl))

end Go.Proofs.YtaoflcmeiaffjaaGreatDoor
