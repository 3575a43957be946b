/-
  What path.Serial answers, for every name and number: the walk.
  What path.Serial answers, for every name and every number, in one contract.
  Requests that are made ready, as plain data: what Prepare answers. No program is named here.
  StoreReplays, plain: a log that was played; committing it in two parts.
  Append of one laid element to a row of the call's own; rows of two kinds of elements are two blocks.
  tree.Get at a good tree, in one contract; the boxes of prep.
  prep.fillChange: the walk.
  prep.number: the walk.
-/
import Derived.Test.YtoacignhobchbaaGreatDoorSRB
import Derived.Test.YtoacignhobchbaaGreatDoorSRAD
import Derived.Test.YtoacignhobchbaaGreatDoorShelf
import Derived.WalkSmall
import Derived.Test.YtoacignhobchbaaGreatDoorSRO
import Derived.Test.YtoacignhobchbaaGreatDoorSRG
import Derived.Deep.AppendLies
import Derived.Test.YtoacignhobchbaaGreatDoorSRR
import Derived.Test.YtoacignhobchbaaGreatDoorSRQ
import Derived.Test.YtoacignhobchbaaGreatDoorSRC
namespace Go.Proofs.YtoacignhobchbaaGreatDoor
open Go.RowKit

theorem below_grow (w : World) (k : Nat) (os : Array Obj) : Below w.heap.size w (Sort.grow (w.drewN k) os) :=
  ⟨rfl, rfl, rfl, by simp [Sort.grow, World.drewN], fun i hi => by simp [Sort.grow, World.drewN, Array.getElem?_append_left hi]⟩

theorem ret_str2 {a b : ByteArray} {i j : Int} (h : a = b) (h' : i = j) : Ending.returned (.tuple #[.string a, .int .i64 i]) = .returned (.tuple #[.string b, .int .i64 j]) := by rw [h, h']
theorem ba_eq {a : ByteArray} {l : List UInt8} (h : a.data.toList = l) : a = ⟨l.toArray⟩ := by
  rw [← h]

/-- what comes of a text that should be a step: itself and no error, or nothing and ErrForm -/
def stepS (l : List UInt8) : ByteArray := if namedB l then ⟨l.toArray⟩ else ⟨#[]⟩
def stepE (l : List UInt8) : Int := if namedB l then 0 else 2
theorem stepS_yes {l : List UInt8} (h : namedB l = true) : stepS l = ⟨l.toArray⟩ := by rw [stepS, if_pos h]
theorem stepE_yes {l : List UInt8} (h : namedB l = true) : stepE l = 0 := by rw [stepE, if_pos h]
theorem stepS_no {l : List UInt8} (h : namedB l = false) : stepS l = ⟨#[]⟩ := by rw [stepS, if_neg (by simp [h])]
theorem stepE_no {l : List UInt8} (h : namedB l = false) : stepE l = 2 := by rw [stepE, if_neg (by simp [h])]

theorem cat_data (name : ByteArray) (R D : List UInt8) : (name ++ ⟨R.toArray⟩ ++ ⟨D.toArray⟩ : ByteArray).data.toList = name.data.toList ++ (R ++ D) := by
  simp [ByteArray.data_append]
theorem cat_size (name : ByteArray) (R D : List UInt8) : (name ++ ⟨R.toArray⟩ ++ ⟨D.toArray⟩ : ByteArray).size = name.size + R.length + D.length := by
  rw [ByteArray.size_append, ByteArray.size_append]; rfl

set_option maxRecDepth 10000 in
set_option maxHeartbeats 400000 in
theorem serial_out (name : ByteArray) (n : Int) (w : World) (hn : n < 0 ∨ 2147483647 < n) :
    Calls Tryz.prog 119 #[.string name, .int .i64 n] w fun e w' => e = .returned (.tuple #[.string ⟨#[]⟩, .int .i64 3]) ∧ w' = w := by
  rcases hn with h | h
  · go_enter Tryz.func119, Tryz.ntmps119
    go_wp2_with fail
    go_ret2
    exact ⟨rfl, rfl⟩
  · have h' : ¬ n < 0 := by omega
    go_enter Tryz.func119, Tryz.ntmps119
    go_wp2_with fail
    go_ret2
    exact ⟨rfl, rfl⟩

set_option maxRecDepth 10000 in
set_option maxHeartbeats 400000 in
theorem serial_in (name : ByteArray) (n : Nat) (w : World) (hn : n ≤ 2147483647) (hs : name.size ≤ 140737488355328)
    (htab : Lib.TabIs Tryz.prog w "internal/strconv.uint64pow10" .u64 Lib.pow10Tab) :
    Calls Tryz.prog 119 #[.string name, .int .i64 n] w fun e w' =>
      e = .returned (.tuple #[.string (stepS (name.data.toList ++ ten n)), .int .i64 (stepE (name.data.toList ++ ten n))]) ∧ Below w.heap.size w w' := by
  have hd := nDigits_le_ten n hn
  have hp := Lib.nDigits_pos n
  have Hten := hide (ten_eq n hn)
  have Hit := hide (Lib.itoa_nonneg n)
  have Hlen := hide (Lib.decDigits_length n)
  go_enter Tryz.func119, Tryz.ntmps119
  go_wp2_with fail
  refine (Tryz.strconv_Itoa _ (by omega) (by omega) _ htab).mono ?_
  rintro e w1 ⟨rfl, k, os, hw1⟩
  have hb1 : Below w.heap.size w w1 := by rw [hw1]; exact below_grow w k os
  clear hw1
  rw [unhide Hit]
  generalize hD : Lib.decDigits n = D
  have hDl : D.length = Lib.nDigits n := by rw [← hD]; exact unhide Hlen
  have HD := hide hD
  clear hD
  have hD1 : 1 ≤ D.length := by omega
  have hD10 : D.length ≤ 10 := by omega
  clear hDl hd hp
  go_wp2_with fail
  rw [show (10 - (D.length : Int)) = ((10 - D.length : Nat) : Int) from by omega]
  refine (Tryz.strings_Repeat _ _ _ (by omega) (by show 1 * _ ≤ _; omega)).mono ?_
  rintro e w2 ⟨rfl, hb2⟩
  generalize hR : Lib.repeatL (ByteArray.mk #[48]).data.toList (10 - D.length) = R
  have hR' : Lib.repeatL [48] (10 - D.length) = R := hR
  have hRl : R.length ≤ 10 := by rw [← hR', Lib.repeatL_length]; simp
  have HR : Hid (R ++ D = ten n) := by
    have h1 := unhide Hten
    have h2 := unhide HD
    rw [h2, hR'] at h1
    exact h1
  clear hR hR' Hten HD Hit Hlen
  go_wp2_with fail
  generalize hX : (name ++ ⟨R.toArray⟩ ++ ⟨D.toArray⟩ : ByteArray) = X
  have HX : Hid (X.data.toList = name.data.toList ++ ten n) := by
    rw [← unhide HR, ← hX]; exact cat_data name R D
  have hXs : X.size ≤ maxLen := by
    unfold maxLen
    rw [← hX, cat_size]; omega
  clear hX HR
  refine (named_any X _ hXs).mono ?_
  rintro e w3 ⟨rfl, rfl⟩
  cases hnm : namedB X.data.toList
  · go_wp2_with fail
    go_ret2
    rw [unhide HX] at hnm
    exact ⟨ret_str2 (stepS_no hnm).symm (stepE_no hnm).symm, hb1.trans (hb2.mono hb1.size)⟩
  · go_wp2_with fail
    go_ret2
    rw [unhide HX] at hnm
    exact ⟨ret_str2 ((ba_eq (unhide HX)).trans (stepS_yes hnm).symm) (stepE_yes hnm).symm, hb1.trans (hb2.mono hb1.size)⟩

end Go.Proofs.YtoacignhobchbaaGreatDoor

namespace Go.Proofs.YtoacignhobchbaaGreatDoor
open Go.RowKit

/-- what Serial answers: the step, or nothing; and the error's number -/
def serS (l : List UInt8) (n : Int) : ByteArray := if 0 ≤ n ∧ n ≤ 2147483647 then stepS (l ++ ten n.toNat) else ⟨#[]⟩
def serE (l : List UInt8) (n : Int) : Int := if 0 ≤ n ∧ n ≤ 2147483647 then stepE (l ++ ten n.toNat) else 3

theorem serial_any (name : ByteArray) (n : Int) (w : World) (hs : name.size ≤ 140737488355328) (htab : Lib.TabIs Tryz.prog w "internal/strconv.uint64pow10" .u64 Lib.pow10Tab) :
    Calls Tryz.prog 119 #[.string name, .int .i64 n] w fun e w' =>
      e = .returned (.tuple #[.string (serS name.data.toList n), .int .i64 (serE name.data.toList n)]) ∧ Below w.heap.size w w' := by
  by_cases h : 0 ≤ n ∧ n ≤ 2147483647
  · obtain ⟨k, rfl⟩ := Int.eq_ofNat_of_zero_le h.1
    refine (serial_in name k w (by omega) hs htab).mono ?_
    rintro e w' ⟨rfl, hb⟩
    exact ⟨ret_str2 (by rw [serS, if_pos h, Int.toNat_natCast]) (by rw [serE, if_pos h, Int.toNat_natCast]), hb⟩
  · refine (serial_out name n w (by omega)).mono ?_
    rintro e w' ⟨rfl, rfl⟩
    exact ⟨ret_str2 (by rw [serS, if_neg h]) (by rw [serE, if_neg h]), Below.refl _ _⟩

theorem serE_ne {l : List UInt8} {n : Int} (h : serE l n ≠ 0) : serS l n = ⟨#[]⟩ := by
  unfold serE at h
  unfold serS
  by_cases h1 : 0 ≤ n ∧ n ≤ 2147483647
  · rw [if_pos h1] at h ⊢
    cases h2 : namedB (l ++ ten n.toNat)
    · exact stepS_no h2
    · exact absurd (stepE_yes h2) h
  · rw [if_neg h1]
theorem serE_eq {l : List UInt8} {n : Int} (h : serE l n = 0) : 0 ≤ n ∧ n ≤ 2147483647 ∧ namedB (l ++ ten n.toNat) = true ∧ serS l n = ⟨(l ++ ten n.toNat).toArray⟩ := by
  unfold serE at h
  unfold serS
  by_cases h1 : 0 ≤ n ∧ n ≤ 2147483647
  · rw [if_pos h1] at h ⊢
    cases h2 : namedB (l ++ ten n.toNat)
    · rw [stepE_no h2] at h; exact absurd h (by decide)
    · exact ⟨h1.1, h1.2, rfl, stepS_yes h2⟩
  · rw [if_neg h1] at h; exact absurd h (by decide)
theorem gPow : Tryz.prog.globalNamed "internal/strconv.uint64pow10" = some 3 := by kernel_rfl
theorem tab_lt {w : World} (htab : Lib.TabIs Tryz.prog w "internal/strconv.uint64pow10" .u64 Lib.pow10Tab) : 3 < w.heap.size := by
  have hc := htab.cell gPow 0 (by decide)
  unfold World.cell? at hc
  cases ho : w.heap[3]? with
  | none => simp [ho] at hc
  | some o => exact (Array.getElem?_eq_some_iff.1 ho).1
theorem tab_kept {w w' : World} (htab : Lib.TabIs Tryz.prog w "internal/strconv.uint64pow10" .u64 Lib.pow10Tab) (hb : Below w.heap.size w w') : Lib.TabIs Tryz.prog w' "internal/strconv.uint64pow10" .u64 Lib.pow10Tab :=
  var?_below hb gPow (tab_lt htab) htab

end Go.Proofs.YtoacignhobchbaaGreatDoor

namespace Go.Proofs.YtoacignhobchbaaGreatDoor
open Go.RowKit

structure Rq where
  o : Int
  s : Int
  p : List UInt8
  d : List UInt8
  v : Int
  f : Int
def rqV (r : Rq) : Value := .agg #[.int .i64 r.o, .int .i64 r.s, .string ⟨r.p.toArray⟩, .string ⟨r.d.toArray⟩, .int .i64 r.v, .int .i64 r.f]

/-- a step with its number behind it, or nothing -/
def serL (l : List UInt8) (n : Int) : List UInt8 := if serE l n = 0 then l ++ ten n.toNat else []
theorem serS_list (l : List UInt8) (n : Int) : serS l n = ⟨(serL l n).toArray⟩ := by
  by_cases h : serE l n = 0
  · rw [(serE_eq h).2.2.2, serL, if_pos h]
  · rw [serE_ne h, serL, if_neg h]
theorem serL_len (l : List UInt8) (n : Int) : (serL l n).length ≤ 40 := by
  by_cases h : serE l n = 0
  · obtain ⟨_, _, hn, _⟩ := serE_eq h
    rw [serL, if_pos h]
    simp only [namedB, Bool.and_eq_true, decide_eq_true_eq] at hn
    exact hn.1.2
  · rw [serL, if_neg h]; simp

/- OpDelete, OpSet -/
def fchE (t : Tr) (r : Rq) : Int := if goodB r.p = true then (if r.s ∈ t.ss then (match lookN t.ns r.p with
  | none => 7
  | some n => if r.v = -1 ∨ r.v = n.v then 0 else 9) else 12) else 2
def verN (t : Tr) (r : Rq) : Int := match lookN t.ns r.p with
  | none => 0
  | some n => n.v
def fchX (t : Tr) (z : Int) (r : Rq) : WTxn := ⟨z, r.o, r.s, r.p, if r.o = 5 then r.d else [], if r.o = 5 then verN t r + 1 else 0, 0⟩
theorem fch_form {t : Tr} {r : Rq} (h : goodB r.p = false) : fchE t r = 2 := by rw [fchE, if_neg (by simp [h])]
theorem fch_shut {t : Tr} {r : Rq} (h : goodB r.p = true) (hs : r.s ∉ t.ss) : fchE t r = 12 := by rw [fchE, if_pos h, if_neg hs]
theorem fch_none {t : Tr} {r : Rq} (h : goodB r.p = true) (hs : r.s ∈ t.ss) (hn : lookN t.ns r.p = none) : fchE t r = 7 := by rw [fchE, if_pos h, if_pos hs, hn]
theorem fch_some {t : Tr} {r : Rq} {n : Nd} (h : goodB r.p = true) (hs : r.s ∈ t.ss) (hn : lookN t.ns r.p = some n) : fchE t r = if r.v = -1 ∨ r.v = n.v then 0 else 9 := by rw [fchE, if_pos h, if_pos hs, hn]
theorem ver_some {t : Tr} {r : Rq} {n : Nd} (hn : lookN t.ns r.p = some n) : verN t r = n.v := by rw [verN, hn]
/- OpCreate -/
def cvN (t : Tr) (r : Rq) : Int := match lookN t.ns (dirOf r.p) with
  | none => 0
  | some u => u.k
def numE (t : Tr) (r : Rq) : Int := match lookN t.ns (dirOf r.p) with
  | none => 7
  | some u => if serE (stepOf r.p) u.k = 0 then joinE (dirOf r.p) (serL (stepOf r.p) u.k) else serE (stepOf r.p) u.k
def numP (t : Tr) (r : Rq) : List UInt8 := joinS (dirOf r.p) (serL (stepOf r.p) (cvN t r))
def fcrE (t : Tr) (r : Rq) : Int := if 0 ≤ r.f ∧ r.f ≤ 3 then (if goodB r.p = true ∧ r.p ≠ [47] then (if r.s ∈ t.ss then (if 2 ≤ r.f then numE t r else 0) else 12) else 2) else 3
def fcrX (t : Tr) (z : Int) (r : Rq) : WTxn := ⟨z, r.o, r.s, if 2 ≤ r.f then numP t r else r.p, r.d, 0, if r.f % 2 = 1 then r.s else 0⟩
theorem num_none {t : Tr} {r : Rq} (h : lookN t.ns (dirOf r.p) = none) : numE t r = 7 := by rw [numE, h]
theorem num_ser {t : Tr} {r : Rq} {u : Nd} (h : lookN t.ns (dirOf r.p) = some u) (h0 : serE (stepOf r.p) u.k ≠ 0) : numE t r = serE (stepOf r.p) u.k := by rw [numE, h]; simp only; rw [if_neg h0]
theorem num_join {t : Tr} {r : Rq} {u : Nd} (h : lookN t.ns (dirOf r.p) = some u) (h0 : serE (stepOf r.p) u.k = 0) : numE t r = joinE (dirOf r.p) (serL (stepOf r.p) u.k) := by rw [numE, h]; simp only; rw [if_pos h0]
theorem cv_some {t : Tr} {r : Rq} {u : Nd} (h : lookN t.ns (dirOf r.p) = some u) : cvN t r = u.k := by rw [cvN, h]
theorem fcr_range {t : Tr} {r : Rq} (h : ¬ (0 ≤ r.f ∧ r.f ≤ 3)) : fcrE t r = 3 := by rw [fcrE, if_neg h]
theorem fcr_form {t : Tr} {r : Rq} (h : 0 ≤ r.f ∧ r.f ≤ 3) (hp : ¬ (goodB r.p = true ∧ r.p ≠ [47])) : fcrE t r = 2 := by rw [fcrE, if_pos h, if_neg hp]
theorem fcr_shut {t : Tr} {r : Rq} (h : 0 ≤ r.f ∧ r.f ≤ 3) (hp : goodB r.p = true ∧ r.p ≠ [47]) (hs : r.s ∉ t.ss) : fcrE t r = 12 := by rw [fcrE, if_pos h, if_pos hp, if_neg hs]
theorem fcr_plain {t : Tr} {r : Rq} (h : 0 ≤ r.f ∧ r.f ≤ 3) (hp : goodB r.p = true ∧ r.p ≠ [47]) (hs : r.s ∈ t.ss) (hf : r.f < 2) : fcrE t r = 0 := by rw [fcrE, if_pos h, if_pos hp, if_pos hs, if_neg (by omega)]
theorem fcr_num {t : Tr} {r : Rq} (h : 0 ≤ r.f ∧ r.f ≤ 3) (hp : goodB r.p = true ∧ r.p ≠ [47]) (hs : r.s ∈ t.ss) (hf : 2 ≤ r.f) : fcrE t r = numE t r := by rw [fcrE, if_pos h, if_pos hp, if_pos hs, if_pos hf]
/- all kinds -/
def filE (t : Tr) (r : Rq) : Int := if r.o = 1 ∨ r.o = 2 then 0 else if r.o = 3 then fcrE t r else if r.o = 4 ∨ r.o = 5 then fchE t r else 4
def filX (t : Tr) (z : Int) (r : Rq) : WTxn := if r.o = 3 then fcrX t z r else if r.o = 4 ∨ r.o = 5 then fchX t z r else ⟨z, r.o, r.s, [], [], 0, 0⟩
theorem fil_end {t : Tr} {z : Int} {r : Rq} (h : r.o = 1 ∨ r.o = 2) : filE t r = 0 ∧ filX t z r = ⟨z, r.o, r.s, [], [], 0, 0⟩ := by
  refine ⟨by rw [filE, if_pos h], ?_⟩
  rw [filX, if_neg (by omega), if_neg (by omega)]
theorem fil_cre {t : Tr} {z : Int} {r : Rq} (h : r.o = 3) : filE t r = fcrE t r ∧ filX t z r = fcrX t z r := by
  refine ⟨by rw [filE, if_neg (by omega), if_pos h], by rw [filX, if_pos h]⟩
theorem fil_chg {t : Tr} {z : Int} {r : Rq} (h : r.o = 4 ∨ r.o = 5) : filE t r = fchE t r ∧ filX t z r = fchX t z r := by
  refine ⟨by rw [filE, if_neg (by omega), if_neg (by omega), if_pos h], by rw [filX, if_neg (by omega), if_pos h]⟩
theorem fil_kind {t : Tr} {r : Rq} (h : r.o < 1 ∨ 5 < r.o) : filE t r = 4 := by
  rw [filE, if_neg (by omega), if_neg (by omega), if_neg (by omega)]

noncomputable def headB (t : Tr) (z : Int) (r : Rq) : Bool := goodT t && zGood z && decide (1 ≤ r.s) && decide (r.s ≤ 2147483647)
noncomputable def prpE (t : Tr) (z : Int) (r : Rq) : Int := if headB t z r = true then (if filE t r = 0 then appE t (filX t z r) else filE t r) else 3
noncomputable def prpX (t : Tr) (z : Int) (r : Rq) : WTxn := if prpE t z r = 0 then filX t z r else t0
theorem headB_true {t : Tr} {z : Int} {r : Rq} : headB t z r = true ↔ GoodT t ∧ zGood z = true ∧ 1 ≤ r.s ∧ r.s ≤ 2147483647 := by
  simp only [headB, Bool.and_eq_true, decide_eq_true_eq, goodT_true, and_assoc]
theorem prp_head {t : Tr} {z : Int} {r : Rq} (h : headB t z r = false) : prpE t z r = 3 := by rw [prpE, if_neg (by simp [h])]
theorem prp_fill {t : Tr} {z : Int} {r : Rq} (h : headB t z r = true) (hf : filE t r ≠ 0) : prpE t z r = filE t r := by rw [prpE, if_pos h, if_neg hf]
theorem prp_app {t : Tr} {z : Int} {r : Rq} (h : headB t z r = true) (hf : filE t r = 0) : prpE t z r = appE t (filX t z r) := by rw [prpE, if_pos h, if_pos hf]
theorem prpX_no {t : Tr} {z : Int} {r : Rq} (h : prpE t z r ≠ 0) : prpX t z r = t0 := by rw [prpX, if_neg h]
theorem prpX_ok {t : Tr} {z : Int} {r : Rq} (h : prpE t z r = 0) : prpX t z r = filX t z r := by rw [prpX, if_pos h]
theorem prp_zero {t : Tr} {z : Int} {r : Rq} (h : prpE t z r = 0) : headB t z r = true ∧ filE t r = 0 ∧ appE t (filX t z r) = 0 := by
  cases hh : headB t z r with
  | false => rw [prp_head hh] at h; exact absurd h (by decide)
  | true =>
    by_cases hf : filE t r = 0
    · exact ⟨rfl, hf, by rw [← prp_app hh hf]; exact h⟩
    · rw [prp_fill hh hf] at h; exact absurd h hf
theorem filX_heads (t : Tr) (z : Int) (r : Rq) : (filX t z r).z = z ∧ (filX t z r).o = r.o ∧ (filX t z r).s = r.s ∧ ((filX t z r).w = 0 ∨ (filX t z r).w = r.s) := by
  unfold filX
  split
  · refine ⟨rfl, rfl, rfl, ?_⟩
    simp only [fcrX]
    split
    · exact .inr rfl
    · exact .inl rfl
  · split
    · exact ⟨rfl, rfl, rfl, .inl rfl⟩
    · exact ⟨rfl, rfl, rfl, .inl rfl⟩
theorem filX_d (t : Tr) (z : Int) (r : Rq) : (filX t z r).d.length ≤ r.d.length := by
  unfold filX
  split
  · exact Nat.le_refl _
  · split
    · simp only [fchX]
      split
      · exact Nat.le_refl _
      · simp
    · simp
/-- PrepFits -/
structure FitP (t : Tr) (z : Int) (r : Rq) (x : WTxn) : Prop where
  app : appE t x = 0
  az : (appT t x).z = z
  z : x.z = z
  o : x.o = r.o
  s : x.s = r.s
  gd : gdE x = 0
  w : x.w = 0 ∨ x.w = r.s
theorem fits_plain {t : Tr} {z : Int} {r : Rq} (h : prpE t z r = 0) : FitP t z r (prpX t z r) := by
  obtain ⟨_, _, ha⟩ := prp_zero h
  rw [prpX_ok h]
  obtain ⟨e1, e2, e3, e4⟩ := filX_heads t z r
  exact ⟨ha, (app_good ha).2.1.trans e1, e1, e2, e3, (adm_zero (app_zero ha).1).2.1, e4⟩
end Go.Proofs.YtoacignhobchbaaGreatDoor

namespace Go.Proofs.YtoacignhobchbaaGreatDoor
open Go.RowKit

/-- the tree behind so many -/
noncomputable def trAt (m : List WTxn) (i : Nat) : Tr := (m.take i).foldl appT trNew
theorem trAt_zero (m : List WTxn) : trAt m 0 = trNew := by simp [trAt]
theorem trAt_succ {m : List WTxn} {i : Nat} {x : WTxn} (h : m[i]? = some x) : trAt m (i + 1) = appT (trAt m i) x := by
  unfold trAt
  rw [take_more1 h, List.foldl_append]
  rfl
theorem trAt_app (m : List WTxn) (x : WTxn) {i : Nat} (h : i ≤ m.length) : trAt (m ++ [x]) i = trAt m i := by
  unfold trAt
  rw [List.take_append_of_le_length h]
/-- a log that was played -/
structure Pld (m : List WTxn) : Prop where
  tkn : Tkn m
  ok : ∀ i x, m[i]? = some x → appE (trAt m i) x = 0
  z : ∀ (i : Nat) x, m[i]? = some x → x.z = i + 1
theorem pld_nil : Pld [] := ⟨⟨Logs.nil, by simp, by simp⟩, by simp, by simp⟩
theorem pld_snoc {m : List WTxn} {r : Rq} {x : WTxn} (h : Pld m) (hl : m.length < 40) (hp : prpE (trAt m m.length) (1 + m.length) r = 0) (hx : x = prpX (trAt m m.length) (1 + m.length) r) : Pld (m ++ [x]) := by
  have f := fits_plain hp
  rw [← hx] at f
  have hz : ∀ y ∈ m, 0 < y.z ∧ y.z < x.z := by
    intro y hy
    obtain ⟨i, hi, rfl⟩ := List.getElem_of_mem hy
    have := h.z i _ (List.getElem?_eq_getElem hi)
    rw [f.z, this]
    omega
  refine ⟨⟨⟨fun y hy => ?_, ?_⟩, by simp; omega, fun y hy => ?_⟩, fun i y hi => ?_, fun i y hi => ?_⟩
  · rcases List.mem_append.1 hy with hy | hy
    · exact h.tkn.log.good y hy
    · rw [List.mem_singleton.1 hy]; exact f.gd
  · rw [List.pairwise_append]
    refine ⟨h.tkn.log.rise, List.pairwise_singleton _ _, fun a ha b hb => ?_⟩
    rw [List.mem_singleton.1 hb]
    exact (hz a ha).2
  · rcases List.mem_append.1 hy with hy | hy
    · exact (hz y hy).1
    · rw [List.mem_singleton.1 hy, f.z]; omega
  · by_cases e : i < m.length
    · rw [List.getElem?_append_left e] at hi
      rw [trAt_app m x (by omega)]
      exact h.ok i y hi
    · rw [List.getElem?_append_right (by omega)] at hi
      have e0 : i - m.length = 0 := by
        have := (List.getElem?_eq_some_iff.1 hi).1
        simp at this
        omega
      rw [e0] at hi
      simp only [List.getElem?_cons_zero, Option.some.injEq] at hi
      subst hi
      rw [trAt_app m _ (by omega), show i = m.length by omega]
      exact f.app
  · by_cases e : i < m.length
    · rw [List.getElem?_append_left e] at hi
      exact h.z i y hi
    · rw [List.getElem?_append_right (by omega)] at hi
      have e0 : i - m.length = 0 := by
        have := (List.getElem?_eq_some_iff.1 hi).1
        simp at this
        omega
      rw [e0] at hi
      simp only [List.getElem?_cons_zero, Option.some.injEq] at hi
      subst hi
      rw [f.z]
      omega

/- committing, step by step -/
theorem fold_st (xs : List WTxn) : ∀ (s : Sv) (N : List Nt), xs.foldl stP (s, N) = ((xs.foldl stP (s, [])).1, N ++ (xs.foldl stP (s, [])).2) := by
  induction xs with
  | nil => intro s N; simp
  | cons x xs ih =>
    intro s N
    simp only [List.foldl_cons, stP]
    rw [ih, ih (N := [] ++ _)]
    simp
/-- another number of done ones -/
def setD (s : Sv) (n : Int) : Sv := ⟨s.up, s.fs, s.id, s.ep, s.ts, n, s.tr, s.ws⟩
theorem fold_setD (xs : List WTxn) : ∀ (s : Sv) (n : Int) (N : List Nt), xs.foldl stP (setD s n, N) = (setD (xs.foldl stP (s, N)).1 n, (xs.foldl stP (s, N)).2) := by
  induction xs with
  | nil => intro s n N; rfl
  | cons x xs ih =>
    intro s n N
    simp only [List.foldl_cons]
    exact ih (cstepS s x) n _
theorem fold_tr (xs : List WTxn) : ∀ (s : Sv) (N : List Nt), (xs.foldl stP (s, N)).1.tr = xs.foldl appT s.tr := by
  induction xs with
  | nil => intro s N; rfl
  | cons x xs ih =>
    intro s N
    simp only [List.foldl_cons]
    exact ih (cstepS s x) _
theorem csP_take (s : Sv) (m : List WTxn) {n i : Nat} (h : i ≤ n) : csP s (m.take n) i = csP s m i := by
  unfold csP
  rw [List.take_take, Nat.min_eq_left h]
/-- the second part, from the first one's server -/
theorem csP_part (s : Sv) (m : List WTxn) (n i : Nat) : (csP (setD (csP s m n).1 n) (m.drop n) i).1 = setD (csP s m (n + i)).1 n ∧ (csP s m (n + i)).2 = (csP s m n).2 ++ (csP (setD (csP s m n).1 n) (m.drop n) i).2 := by
  unfold csP
  rw [List.take_add, List.foldl_append, fold_setD]
  generalize (m.take n).foldl stP (s, []) = P
  obtain ⟨S, N⟩ := P
  rw [fold_st ((m.drop n).take i) S N]
  exact ⟨rfl, rfl⟩

/-- a server that took a played log, with watches -/
noncomputable def svW (m : List WTxn) (ws : List Wa) : Sv := ⟨true, [logF m], 0, epochD [], m, 0, trNew, ws⟩
theorem svW_tr (m : List WTxn) (ws : List Wa) (i : Nat) : (csP (svW m ws) m i).1.tr = trAt m i := by
  unfold csP trAt
  rw [fold_tr]
  rfl
theorem pld_good {m : List WTxn} (h : Pld m) {i : Nat} (hi : i ≤ m.length) : GoodT (trAt m i) := by
  cases i with
  | zero => rw [trAt_zero]; exact good_new
  | succ i =>
    obtain ⟨x, hx⟩ : ∃ x, m[i]? = some x := ⟨_, List.getElem?_eq_getElem (by omega)⟩
    rw [trAt_succ hx]
    exact (app_good (h.ok i x hx)).1
theorem pld_chn {m : List WTxn} (h : Pld m) (ws : List Wa) {n : Nat} (hn : n ≤ m.length) : Chn (svW m ws) (m.take n) n := by
  refine ⟨by simp; omega, fun i x hi hx => ?_, fun x hx => ?_⟩
  · rw [csP_take _ _ (by omega), svW_tr]
    rw [List.getElem?_take_of_lt hi] at hx
    exact h.ok i x hx
  · have := (List.getElem?_eq_some_iff.1 hx).1
    simp at this
    omega
theorem pld_chn2 {m : List WTxn} (h : Pld m) (ws : List Wa) (n : Nat) : Chn (setD (csP (svW m ws) m n).1 n) (m.drop n) (m.length - n) := by
  refine ⟨by simp, fun i x hi hx => ?_, fun x hx => ?_⟩
  · rw [(csP_part _ _ _ _).1]
    rw [List.getElem?_drop] at hx
    show appE (csP (svW m ws) m (n + i)).1.tr x = 0
    rw [svW_tr]
    exact h.ok _ x hx
  · have := (List.getElem?_eq_some_iff.1 hx).1
    simp at this
/-- what is asked of the watches -/
structure WaS (ws : List Wa) : Prop where
  sh : Short ws
  wl : ws.length * 32 ≤ 140737488351232
theorem pld_sizes {m : List WTxn} (h : Pld m) : ∀ x ∈ m, x.p.length ≤ 140737488355328 ∧ x.d.length ≤ 140737488355328 := fun x hx => by
  have hg := gdE_zero (h.tkn.log.good x hx)
  have h3 := fmB_le hg.2.2.2
  omega
theorem pld_base {m : List WTxn} (h : Pld m) {ws : List Wa} (hw : WaS ws) (n : Nat) : CBase (svW m ws) (m.take n) :=
  ⟨good_new.wf, hw.sh, hw.wl, fun x hx => (pld_sizes h x (List.mem_of_mem_take hx)).2, fun x hx => (pld_sizes h x (List.mem_of_mem_take hx)).1⟩
/-- a server that committed so many -/
noncomputable def svR (m : List WTxn) (ws : List Wa) (n : Nat) : Sv := setD (csP (svW m ws) m n).1 n
theorem svR_at {m : List WTxn} (h : Pld m) {ws : List Wa} (hw : WaS ws) {n : Nat} (hn : n ≤ m.length) :
    (svR m ws n).tr = trAt m n ∧ Short (svR m ws n).ws ∧ (svR m ws n).ws.length ≤ ws.length ∧ (svR m ws n).fs = [logF m] ∧ (svR m ws n).ts = m ∧ (svR m ws n).dn = n := by
  have hc := chn_at (pld_base h hw n) (pld_chn h ws hn) n (Nat.le_refl _)
  rw [csP_take _ _ (Nat.le_refl _)] at hc
  obtain ⟨⟨_, a2, a3⟩, _, b2, _, _, b5, _⟩ := hc
  exact ⟨svW_tr m ws n, a2, by have : (svW m ws).ws = ws := rfl; rw [this] at a3; show (csP (svW m ws) m n).1.ws.length ≤ _; omega, b2, b5, rfl⟩
theorem svR_base {m : List WTxn} (h : Pld m) {ws : List Wa} (hw : WaS ws) {n : Nat} (hn : n ≤ m.length) : CBase (svR m ws n) (m.drop n) := by
  obtain ⟨e1, e2, e3, _⟩ := svR_at h hw hn
  have := hw.wl
  exact ⟨by rw [e1]; exact (pld_good h hn).wf, e2, by omega, fun x hx => (pld_sizes h x (List.mem_of_mem_drop hx)).2, fun x hx => (pld_sizes h x (List.mem_of_mem_drop hx)).1⟩
theorem svR_fits {m : List WTxn} (h : Pld m) {ws : List Wa} (hw : WaS ws) {n : Nat} (hn : n ≤ m.length) : Fits (svR m ws n) := by
  obtain ⟨e1, e2, e3, e4, e5, _⟩ := svR_at h hw hn
  have g := pld_good h hn
  have hf := h.tkn.few
  have hwl := hw.wl
  have hr := recs_small h.tkn.log (by omega)
  refine ⟨by rw [e4]; simp, by rw [e4]; exact good_slim (good_one (by simp; omega)), by rw [e5]; omega, by rw [e5]; exact pld_sizes h, by rw [e1]; have := g.nod.few; omega, by rw [e1]; exact g.wf.slim, by rw [e1]; exact sasc_len g.ses, by omega, e2⟩
theorem svW_fits {m : List WTxn} (h : Pld m) {ws : List Wa} (hw : WaS ws) : Fits (svW m ws) := by
  have := svR_fits h hw (n := 0) (by omega)
  rwa [show svR m ws 0 = svW m ws from by unfold svR; rw [csP_zero]; rfl] at this

/- the two calls -/
/-- a server, so many notes, no fault; its rows as slices, its sessions in new memory -/
def GivesR2 (w : World) (s : Sv) (n : Nat) (e : Ending) (w' : World) : Prop :=
  ∃ ad nd cd al cl an cn ai ci aw cw aN cN, e = .returned (.tuple #[.agg #[.bool s.up, .slice ad nd cd, .int .i64 s.id, .int .i64 s.ep, .slice al s.ts.length cl, .int .i64 s.dn, .int .i64 s.tr.z, .slice an s.tr.ns.length cn, .slice ai s.tr.ss.length ci, .slice aw s.ws.length cw], .slice aN n cN, .int .i64 0]) ∧
    Hid (SvV w' (.agg #[.bool s.up, .slice ad nd cd, .int .i64 s.id, .int .i64 s.ep, .slice al s.ts.length cl, .int .i64 s.dn, .int .i64 s.tr.z, .slice an s.tr.ns.length cn, .slice ai s.tr.ss.length ci, .slice aw s.ws.length cw]) s ∧ Fresh w.heap.size (.slice ai s.tr.ss.length ci)) ∧ Below w.heap.size w w'
theorem gives_r2 {w w' : World} {s : Sv} {N : List Nt} {e : Ending} (h : GivesCm w s N 0 e w') (hf : FrS w e) : GivesR2 w s N.length e w' := by
  obtain ⟨v, aN, cN, rfl, hs, _, hb⟩ := h
  obtain ⟨ad, nd, cd, al, cl, an, cn, ai, ci, aw, cw, rfl, _⟩ := hs.five
  exact ⟨ad, nd, cd, al, cl, an, cn, ai, ci, aw, cw, aN, cN, rfl, hide ⟨hs, hf _ _ _ _ _ _ _ _ _ _ _ _ rfl⟩, hb⟩
theorem commit_n {m : List WTxn} (h : Pld m) {ws : List Wa} (hw : WaS ws) {n : Nat} (hn : n ≤ m.length) (v : Value) (w : World) (hv : SvV w v (svW m ws)) :
    Calls Tryz.prog 9 #[v, .int .i64 n] w (GivesR2 w (svR m ws n) (csP (svW m ws) m n).2.length) := by
  refine (scommit_runF (svW m ws) v 0 n n (m.take n) w hv (svW_fits h hw) rfl (by omega) hn (by simp [svW]) (pld_chn h ws hn) (pld_base h hw n)).mono fun e w' H => ?_
  have := H.1 (by simp; omega)
  rw [csP_take _ _ (Nat.le_refl _)] at this
  exact gives_r2 this.1 this.2
theorem commit_rest {m : List WTxn} (h : Pld m) {ws : List Wa} (hw : WaS ws) {n : Nat} (hn : n ≤ m.length) : ∃ N2 : Nat, (csP (svW m ws) m m.length).2.length = (csP (svW m ws) m n).2.length + N2 ∧
    ∀ v w, SvV w v (svR m ws n) → Calls Tryz.prog 9 #[v, .int .i64 m.length] w (GivesR2 w (svR m ws m.length) N2) := by
  obtain ⟨p1, p2⟩ := csP_part (svW m ws) m n (m.length - n)
  rw [show n + (m.length - n) = m.length by omega] at p1 p2
  refine ⟨(csP (svR m ws n) (m.drop n) (m.length - n)).2.length, by rw [p2, List.length_append]; rfl, fun v w hv => ?_⟩
  obtain ⟨e1, e2, e3, e4, e5, e6⟩ := svR_at h hw hn
  refine (scommit_runF (svR m ws n) v n m.length (m.length - n) (m.drop n) w hv (svR_fits h hw hn) e6 hn (by rw [e5]; omega) (by rw [e5, List.take_of_length_le (by simp)]) (pld_chn2 h ws n) (svR_base h hw hn)).mono fun e w' H => ?_
  have := H.1 (by simp)
  have e0 : (csP (svR m ws n) (m.drop n) (m.length - n)).1 = setD (csP (svW m ws) m m.length).1 n := p1
  rw [e0] at this
  exact gives_r2 this.1 this.2
end Go.Proofs.YtoacignhobchbaaGreatDoor

namespace Go.Proofs.YtoacignhobchbaaGreatDoor
open Go.RowKit

theorem wpList_app1 {α : Type} [Lay α] {w : World} {ops : Array Oper} {rest : List Oper} {o : Oper} {a : Act} {Q : Exit → Act → World → Prop} (hgd : o.guard = none) (s x : Operand) (T : TypeId)
    (ho : o.op = .call { callee := .builtin .append, args := #[s, x], argTypes := #[T, T] })
    (i0 : TypeInfo) (z : Value) (bytes : Nat) (hU : Tryz.prog.underlying T = some (.slice (Lay.ty α))) (hi0 : Tryz.prog.info? (Lay.ty α) = some i0) (hz0 : i0.zero = some z) (hz1 : i0.size = Lay.k α) (hz2 : i0.bytes = bytes) (hzs : z.cells.size = Lay.k α) (hk0 : 0 < Lay.k α)
    (v : Value) (ns : List α) (hs : a.eval s = v) (B : Nat) (hown : OwnS w B v ns) (q : Nat) (hx : a.eval x = .slice (some ⟨q, 0, none⟩) 1 1) (t : α) (hnews : OneR w q t) (hl : (ns.length + 1) * bytes ≤ 140737488355328) (hm : ns.length + 1 ≤ maxLen) (hB : B ≤ w.heap.size)
    (h : ∀ a' c' w', OwnS w' B (.slice a' (ns.length + 1) c') (ns ++ [t]) → w.grownBy w' v.ownBlock → wpList Tryz.prog ops Q rest (a.put o.dst (.slice a' (ns.length + 1) c')) w') :
    wpList Tryz.prog ops Q (o :: rest) a w := by
  refine wpList_plain hgd fun K hK => ?_
  obtain ⟨v', w', hr, h2, h3, _⟩ := run_append_own (P := Tryz.prog) w B T o.type (Lay.ty α) i0 z (Lay.k α) bytes hU hi0 hz0 hz1 hz2 hzs hk0 v ns.length (cellsL ns) hown.row ⟨q, 0, none⟩ 1 1 (Lay.cs t) (by rw [Lay.len, Nat.one_mul]) (one_news hnews) (Lay.one t) hm hl hB
  have h2' : OwnS w' B v' (ns ++ [t]) := OwnS.of_row (by rw [List.length_append, cellsL_snoc]; exact h2)
  obtain ⟨a', c', rfl, _⟩ := h2'.slice
  rw [List.length_append, List.length_singleton] at h2' hr
  unfold Oper.wp execOp
  simp only [ho, resolve, invoke, builtin, Sem.run_bind, Sem.run_pure, Result.andThen_ok, List.map_toArray, List.map_cons, List.map_nil, hs, hx, hr]
  exact hK _ _ (h a' c' w' h2' h3)

theorem OwnS.apart {α β : Type} [Lay α] [Lay β] {W : World} {B C : Nat} {u v : Value} {xs : List α} {ys : List β} (h : OwnS W B u xs) (k : OwnS W C v ys) (hne : Lay.ty α ≠ Lay.ty β) : ∀ q, u.ownBlock = some q → some q ≠ v.ownBlock := by
  intro q hq e
  rcases h with ⟨rfl, rfl⟩ | ⟨g, cap, rfl, _, rest, h1, _⟩
  · simp [Value.ownBlock] at hq
  · rcases k with ⟨rfl, rfl⟩ | ⟨g', cap', rfl, _, rest', h1', _⟩
    · simp [Value.ownBlock] at e
    · simp only [Value.ownBlock, Option.some.injEq] at hq e
      subst hq e
      rw [h1] at h1'
      simp at h1'
      exact hne h1'.2
end Go.Proofs.YtoacignhobchbaaGreatDoor

namespace Go.Proofs.YtoacignhobchbaaGreatDoor
open Go.RowKit

theorem GoodT.pwf {t : Tr} (g : GoodT t) : WfT t := by
  refine ⟨fun s hs => by have := g.ses.2 s hs; omega, fun n hn => ?_⟩
  have k := g.nod.ok n hn
  exact ⟨by have := goodB_le k.path; omega, by have := k.data; omega⟩
def getN (t : Tr) (p : List UInt8) : Nd := (lookN t.ns p).getD nzero
def getE (t : Tr) (p : List UInt8) : Int := if (lookN t.ns p).isSome = true then 0 else 7
theorem get_some {t : Tr} {p : List UInt8} {n : Nd} (h : lookN t.ns p = some n) : getN t p = n ∧ getE t p = 0 := by
  rw [getN, getE, h]; exact ⟨rfl, rfl⟩
theorem get_none {t : Tr} {p : List UInt8} (h : lookN t.ns p = none) : getN t p = nzero ∧ getE t p = 7 := by
  rw [getN, getE, h]; exact ⟨rfl, rfl⟩
theorem tget_any (t : Tr) (vn vs : Value) (p : List UInt8) (w : World) (g : GoodT t) (hn : SeqV w vn t.ns) :
    Calls Tryz.prog 89 #[.agg #[.int .i64 t.z, vn, vs], .string ⟨p.toArray⟩] w fun e w' => e = .returned (.tuple #[nodeV (getN t p), .int .i64 (getE t p)]) ∧ Below w.heap.size w w' := by
  have few := g.nod.few
  rcases nwhere p t.ns g.nod.asc with ⟨A, n, B, T⟩ | ⟨A, B, G⟩
  · have hm : n ∈ t.ns := by rw [T.eq]; simp
    have sl := g.pwf.slim n hm
    rw [(get_some T.look).1, (get_some T.look).2]
    exact tget_there t.z vn vs t.ns A B n p w hn (by omega) T sl.1 sl.2
  · rw [(get_none G.look).1, (get_none G.look).2]
    exact tget_gap t.z vn vs t.ns A B p w hn (by omega) G

end Go.Proofs.YtoacignhobchbaaGreatDoor

namespace Go.Proofs.YtoacignhobchbaaGreatDoor
open Go.RowKit

/-- the boxes of a tree and of a request -/
structure TR (W : World) (q : Nat) (z : Int) (vn vs : Value) (r : Rq) : Prop where
  t : W.heap[q]? = some (.cells #[.int .i64 z, vn, vs] 34 (0, 0))
  r : W.heap[q + 1]? = some (.cells #[.int .i64 r.o, .int .i64 r.s, .string ⟨r.p.toArray⟩, .string ⟨r.d.toArray⟩, .int .i64 r.v, .int .i64 r.f] 58 (0, 0))
section
variable {W V : World} {q : Nat} {z : Int} {vn vs : Value} {r : Rq}
theorem TR.lt (h : TR W q z vn vs r) : q + 1 < W.heap.size := (Array.getElem?_eq_some_iff.1 h.r).1
theorem TR.next (h : TR W q z vn vs r) (hb : Below W.heap.size W V) : TR V q z vn vs r := ⟨(hb.block _ (by have := h.lt; omega)).trans h.t, (hb.block _ h.lt).trans h.r⟩
theorem TR.other (h : TR W q z vn vs r) {a : Addr} (v : Value) (h1 : a.block < q ∨ q + 1 < a.block) : TR (W.setCell a v) q z vn vs r :=
  ⟨(Below.heap_setCell W a v q (by omega)).trans h.t, (Below.heap_setCell W a v (q + 1) (by omega)).trans h.r⟩
theorem TR.nine (h : TR W q z vn vs r) : W.cell? ⟨q, 0, none⟩ = some (.int .i64 z) ∧ W.cell? ⟨q, 1, none⟩ = some vn ∧ W.cell? ⟨q, 2, none⟩ = some vs ∧ W.cell? ⟨q + 1, 0, none⟩ = some (.int .i64 r.o) ∧ W.cell? ⟨q + 1, 1, none⟩ = some (.int .i64 r.s) ∧ W.cell? ⟨q + 1, 2, none⟩ = some (.string ⟨r.p.toArray⟩) ∧ W.cell? ⟨q + 1, 3, none⟩ = some (.string ⟨r.d.toArray⟩) ∧ W.cell? ⟨q + 1, 4, none⟩ = some (.int .i64 r.v) ∧ W.cell? ⟨q + 1, 5, none⟩ = some (.int .i64 r.f) := by
  have h1 := h.t
  have h2 := h.r
  refine ⟨?_, ?_, ?_, ?_, ?_, ?_, ?_, ?_, ?_⟩ <;> simp [World.cell?, h1, h2]
end
theorem TR.new (w : World) (z : Int) (vn vs : Value) (r : Rq) : TR ((w.alloc (.cells #[.int .i64 z, vn, vs] 34)).alloc (.cells #[.int .i64 r.o, .int .i64 r.s, .string ⟨r.p.toArray⟩, .string ⟨r.d.toArray⟩, .int .i64 r.v, .int .i64 r.f] 58)) w.heap.size z vn vs r := by
  refine ⟨?_, ?_⟩
  · rw [(allocB _ _).block _ (by simp)]
    exact heap_alloc_new w _
  · have h := heap_alloc_new (w.alloc (.cells #[.int .i64 z, vn, vs] 34)) (.cells #[.int .i64 r.o, .int .i64 r.s, .string ⟨r.p.toArray⟩, .string ⟨r.d.toArray⟩, .int .i64 r.v, .int .i64 r.f] 58)
    rw [show (w.alloc (.cells #[.int .i64 z, vn, vs] 34)).heap.size = w.heap.size + 1 by simp] at h
    exact h

/-- what a function that fills a transaction gives: its error; the transaction where there is none -/
def GivesFl (u : World) (g : Nat) (E : Int) (x : WTxn) (e : Ending) (w' : World) : Prop :=
  e = .returned (.int .i64 E) ∧ Below u.heap.size u w' ∧ (E = 0 → TAt w' g x)

theorem givesFl_no {u : World} {g : Nat} {E E' : Int} {x : WTxn} {e : Ending} {w' : World} (hE : E = E') (h0 : E' ≠ 0) (he : e = .returned (.int .i64 E')) (hb : Below u.heap.size u w') : GivesFl u g E x e w' :=
  ⟨by rw [hE]; exact he, hb, fun h => absurd (hE.symm.trans h) h0⟩
theorem givesF_ok {u : World} {g : Nat} {E : Int} {x : WTxn} {e : Ending} {w' : World} (hE : E = 0) (he : e = .returned (.int .i64 0)) (hb : Below u.heap.size u w') (hx : TAt w' g x) : GivesFl u g E x e w' :=
  ⟨by rw [hE]; exact he, hb, fun _ => hx⟩
theorem cell_other {W : World} {a : Addr} {v x : Value} {k j : Nat} (h : W.cell? ⟨k, j, none⟩ = some x) (hk : k ≠ a.block) : (W.setCell a v).cell? ⟨k, j, none⟩ = some x := by
  have e := Below.heap_setCell W a v k hk
  unfold World.cell? at h ⊢
  simp only at h ⊢
  rw [e]
  exact h
theorem TAt.p {W : World} {g : Nat} {x : WTxn} (h : TAt W g x) (l : List UInt8) : TAt (W.setCell ⟨g, 3, none⟩ (.string ⟨l.toArray⟩)) g { x with p := l } := by
  unfold TAt at *; rw [block_set _ h]; simp
theorem TAt.d {W : World} {g : Nat} {x : WTxn} (h : TAt W g x) (l : List UInt8) : TAt (W.setCell ⟨g, 4, none⟩ (.string ⟨l.toArray⟩)) g { x with d := l } := by
  unfold TAt at *; rw [block_set _ h]; simp
theorem TAt.v {W : World} {g : Nat} {x : WTxn} (h : TAt W g x) (l : Int) : TAt (W.setCell ⟨g, 5, none⟩ (.int .i64 l)) g { x with v := l } := by
  unfold TAt at *; rw [block_set _ h]; simp
theorem TAt.w {W : World} {g : Nat} {x : WTxn} (h : TAt W g x) (l : Int) : TAt (W.setCell ⟨g, 6, none⟩ (.int .i64 l)) g { x with w := l } := by
  unfold TAt at *; rw [block_set _ h]; simp

set_option maxRecDepth 20000 in
set_option maxHeartbeats 4000000 in
theorem fchange_any (t : Tr) (z : Int) (vn vs : Value) (r : Rq) (g : Nat) (u w : World) (gt : GoodT t) (hn : SeqV u vn t.ns) (hs : SeqV u vs t.ss) (hb : Below u.heap.size u w) (hg : u.heap.size ≤ g) (hx : TAt w g ⟨z, r.o, r.s, [], [], 0, 0⟩) (ho : r.o = 4 ∨ r.o = 5) (hp : r.p.length ≤ 140737488355328) (hd : r.d.length ≤ 140737488355328) :
    Calls Tryz.prog 59 #[.pointer (some ⟨g, 0, none⟩), .agg #[.int .i64 t.z, vn, vs], rqV r] w (GivesFl u g (fchE t r) (fchX t z r)) := by
  have CG := hide (fun W (hW : Below u.heap.size u W) => tget_any t vn vs r.p W gt (hn.next hW))
  have CO := hide (fun W (hW : Below u.heap.size u W) => topen_any t.z vn vs t.ss r.s W (hs.next hW) gt.ses)
  have CP := hide (fun W => good_any ⟨r.p.toArray⟩ W)
  have CL := hide (fun W => nclone_any r.p W (by omega))
  have CD := hide (fun W => nclone_any r.d W (by omega))
  obtain ⟨na, nc, rfl⟩ := seq_slice hn
  obtain ⟨sa, sc, rfl⟩ := seq_slice hs
  unfold nodeV at CG
  obtain ⟨ro, rs, rp, rd, rv, rf⟩ := r
  unfold rqV
  simp only at *
  have X0 := hide hx
  have B0 := hide hb
  have hgl := hx.lt
  have R0 := hide (TR.new w t.z (.slice na t.ns.length nc) (.slice sa t.ss.length sc) ⟨ro, rs, rp, rd, rv, rf⟩)
  clear hn hs hb hx
  go_enter Tryz.func59, Tryz.ntmps59
  go_wp2_with fail
  refine (unhide CG _ (nnext (nnext (unhide B0) (allocB _ _)) (allocB _ _))).mono ?_
  rintro e w1 ⟨rfl, hb1⟩
  have R1 := hide ((unhide R0).next hb1)
  have B1 := hide (nnext (unhide B0) (nbox_then (nbox_then hb1)))
  have X1 := hide ((unhide X0).next (nbox_then (nbox_then hb1)))
  clear hb1 R0 B0 X0 CG
  obtain ⟨N, hN⟩ : ∃ N, getN t rp = N := ⟨_, rfl⟩
  obtain ⟨E, hE⟩ : ∃ E, getE t rp = E := ⟨_, rfl⟩
  rw [hN, hE]
  have HN := hide hN
  have HE := hide hE
  clear hN hE
  obtain ⟨np, nd, nc, nm, nq, nv, nk, no, nn⟩ := N
  simp only
  have R2 := hide ((unhide R1).next (allocB w1 (.cells #[.string ⟨np.toArray⟩, .string ⟨nd.toArray⟩, .int .i64 nc, .int .i64 nm, .int .i64 nq, .int .i64 nv, .int .i64 nk, .int .i64 no, .int .i64 nn] 70)))
  obtain ⟨a0, a1, a2, a3, a4, a5, a6, a7, a8⟩ := (unhide R2).nine
  simp only at a0 a1 a2 a3 a4 a5 a6 a7 a8
  go_wp2_with fail
  refine (unhide CP _).mono ?_
  rintro e w2 ⟨rfl, hb2⟩
  have R3 := hide ((unhide R2).next hb2)
  have B3 := hide (nnext (unhide B1) (nbox_then hb2))
  have X3 := hide ((unhide X1).next (nbox_then hb2))
  have D3 : w2.cell? ⟨w1.heap.size, 5, none⟩ = some (.int .i64 nv) := by rw [hb2.cell (p := ⟨w1.heap.size, 5, none⟩) (by simp)]; simp
  obtain ⟨b0, b1, b2, b3, b4, b5, b6, b7, b8⟩ := (unhide R3).nine
  simp only at b0 b1 b2 b3 b4 b5 b6 b7 b8
  have hg1 := (unhide X1).lt
  clear a0 a1 a2 a3 a4 a5 a6 a7 a8 hb2 R1 R2 B1 X1 CP
  cases hgd : goodB rp with
  | false =>
    have HG := hide hgd
    clear hgd
    go_wp2_with fail
    go_ret
    exact givesFl_no (fch_form (unhide HG)) (by decide) rfl (unhide B3)
  | true =>
    have HG := hide hgd
    clear hgd
    go_wp2_with fail
    refine (unhide CO _ (unhide B3)).mono ?_
    rintro e w3 ⟨rfl, hb3⟩
    have R4 := hide ((unhide R3).next hb3)
    have B4 := hide (nnext (unhide B3) hb3)
    have X4 := hide ((unhide X3).next hb3)
    have D4 : w3.cell? ⟨w1.heap.size, 5, none⟩ = some (.int .i64 nv) := by rw [hb3.cell (p := ⟨w1.heap.size, 5, none⟩) (World.block_lt_of_cell? _ _ D3)]; exact D3
    obtain ⟨d0, d1, d2, d3, d4, d5, d6, d7, d8⟩ := (unhide R4).nine
    simp only at d0 d1 d2 d3 d4 d5 d6 d7 d8
    clear b0 b1 b2 b3 b4 b5 b6 b7 b8 hb3 R3 B3 X3 CO D3
    by_cases hm : rs ∈ t.ss
    · rw [show decide (rs ∈ t.ss) = true from decide_eq_true hm]
      have HM := hide hm
      clear hm
      cases hl : lookN t.ns rp with
      | none =>
        have HL := hide hl
        obtain ⟨_, h7⟩ := get_none hl
        rw [unhide HE] at h7
        subst h7
        clear hl
        go_wp2_with fail
        go_ret
        exact givesFl_no (fch_none (unhide HG) (unhide HM) (unhide HL)) (by decide) rfl (unhide B4)
      | some n =>
        have HL := hide hl
        obtain ⟨hnn, h0⟩ := get_some hl
        rw [unhide HE] at h0
        subst h0
        rw [unhide HN] at hnn
        have hnv : n.v = nv := by rw [← hnn]
        have hko := gt.nod.ok n (lookN_some hl).1
        have hv0 : 0 ≤ nv := by have := hko.v0; omega
        have hv1 : nv ≤ 2147483647 := by have := hko.v1; omega
        have HV := hide hnv
        clear hl hnn hnv hko
        by_cases hv : rv = -1 ∨ rv = nv
        · have HF : Hid (fchE t ⟨ro, rs, rp, rd, rv, rf⟩ = 0) := hide ((fch_some (unhide HG) (unhide HM) (unhide HL)).trans (if_pos (by rw [unhide HV]; exact hv)))
          have HY : Hid (verN t ⟨ro, rs, rp, rd, rv, rf⟩ = nv) := hide ((ver_some (unhide HL)).trans (unhide HV))
          have hgw := (unhide X4).lt
          have hc : (rv != -1) = false ∨ ((rv != -1) = true ∧ (rv != nv) = false) := by
            rcases hv with h | h
            · exact .inl (by simp [h])
            · by_cases h1 : rv = -1
              · exact .inl (by simp [h1])
              · exact .inr ⟨by simp [h1], by simp [h]⟩
          clear HN HE HG HM HL HV hv
          rcases hc with hc1 | ⟨hc1, hc2⟩
          · rcases ho with rfl | rfl
            · have HX : Hid (fchX t z ⟨4, rs, rp, rd, rv, rf⟩ = ⟨z, 4, rs, rp, [], 0, 0⟩) := hide rfl
              go_wp2_with fail
              refine (unhide CL _).mono ?_
              rintro e w4 ⟨rfl, hb4⟩
              have R5 := hide ((unhide R4).next hb4)
              have B5 := hide (nnext (unhide B4) hb4)
              have X5 := hide ((unhide X4).next hb4)
              have D5 : w4.cell? ⟨w1.heap.size, 5, none⟩ = some (.int .i64 nv) := by rw [hb4.cell (p := ⟨w1.heap.size, 5, none⟩) (World.block_lt_of_cell? _ _ D4)]; exact D4
              have k3 := (unhide X5).c3
              have f3 := (unhide X5).f 3
              have hgw5 := (unhide X5).lt
              obtain ⟨e0, e1, e2, e3, e4, e5, e6, e7, e8⟩ := (unhide R5).nine
              simp only at e0 e1 e2 e3 e4 e5 e6 e7 e8
              have hne : w.heap.size + 1 ≠ g := by omega
              clear d0 d1 d2 d3 d4 d5 d6 d7 d8 hb4 R4 B4 X4 D4 CL
              go_wp2_with fail
              go_ret
              exact givesF_ok (unhide HF) rfl ((unhide B5).setCell hg _) (by rw [unhide HX]; exact (unhide X5).p rp)
            · have HX : Hid (fchX t z ⟨5, rs, rp, rd, rv, rf⟩ = ⟨z, 5, rs, rp, rd, nv + 1, 0⟩) := hide (by rw [fchX, unhide HY]; rfl)
              go_wp2_with fail
              refine (unhide CL _).mono ?_
              rintro e w4 ⟨rfl, hb4⟩
              have R5 := hide ((unhide R4).next hb4)
              have B5 := hide (nnext (unhide B4) hb4)
              have X5 := hide ((unhide X4).next hb4)
              have D5 : w4.cell? ⟨w1.heap.size, 5, none⟩ = some (.int .i64 nv) := by rw [hb4.cell (p := ⟨w1.heap.size, 5, none⟩) (World.block_lt_of_cell? _ _ D4)]; exact D4
              have k3 := (unhide X5).c3
              have f3 := (unhide X5).f 3
              have hgw5 := (unhide X5).lt
              obtain ⟨e0, e1, e2, e3, e4, e5, e6, e7, e8⟩ := (unhide R5).nine
              simp only at e0 e1 e2 e3 e4 e5 e6 e7 e8
              have hne : w.heap.size + 1 ≠ g := by omega
              clear d0 d1 d2 d3 d4 d5 d6 d7 d8 hb4 R4 B4 X4 D4 CL
              go_wp2_with fail
              refine (unhide CD _).mono ?_
              rintro e w6 ⟨rfl, hb6⟩
              have hgw6 : g < (w4.setCell ⟨g, 3, none⟩ (.string ⟨rp.toArray⟩)).heap.size := by simp; omega
              have B6 : Hid (Below u.heap.size u w6) := hide (nnext ((unhide B5).setCell (by exact hg) _) hb6)
              have X6 := hide (((unhide X5).p rp).next hb6)
              have D6 : w6.cell? ⟨w1.heap.size, 5, none⟩ = some (.int .i64 nv) := by
                have D7 := cell_other (a := ⟨g, 3, none⟩) (v := .string ⟨rp.toArray⟩) D5 (by simp only; omega)
                rw [hb6.cell (p := ⟨w1.heap.size, 5, none⟩) (World.block_lt_of_cell? _ _ D7)]
                exact D7
              have k4 := (unhide X6).c4
              have f4 := (unhide X6).f 4
              have k5 := (unhide X6).c5
              have f5 := (unhide X6).f 5
              clear hb6 R5 B5 X5 D5 k3 f3 CD
              go_wp2_with fail
              go_ret
              exact givesF_ok (unhide HF) rfl (((unhide B6).setCell hg _).setCell hg _) (by rw [unhide HX]; exact ((unhide X6).d rd).v (nv + 1))
          · rcases ho with rfl | rfl
            · have HX : Hid (fchX t z ⟨4, rs, rp, rd, rv, rf⟩ = ⟨z, 4, rs, rp, [], 0, 0⟩) := hide rfl
              go_wp2_with fail
              refine (unhide CL _).mono ?_
              rintro e w4 ⟨rfl, hb4⟩
              have R5 := hide ((unhide R4).next hb4)
              have B5 := hide (nnext (unhide B4) hb4)
              have X5 := hide ((unhide X4).next hb4)
              have D5 : w4.cell? ⟨w1.heap.size, 5, none⟩ = some (.int .i64 nv) := by rw [hb4.cell (p := ⟨w1.heap.size, 5, none⟩) (World.block_lt_of_cell? _ _ D4)]; exact D4
              have k3 := (unhide X5).c3
              have f3 := (unhide X5).f 3
              have hgw5 := (unhide X5).lt
              obtain ⟨e0, e1, e2, e3, e4, e5, e6, e7, e8⟩ := (unhide R5).nine
              simp only at e0 e1 e2 e3 e4 e5 e6 e7 e8
              have hne : w.heap.size + 1 ≠ g := by omega
              clear d0 d1 d2 d3 d4 d5 d6 d7 d8 hb4 R4 B4 X4 D4 CL
              go_wp2_with fail
              go_ret
              exact givesF_ok (unhide HF) rfl ((unhide B5).setCell hg _) (by rw [unhide HX]; exact (unhide X5).p rp)
            · have HX : Hid (fchX t z ⟨5, rs, rp, rd, rv, rf⟩ = ⟨z, 5, rs, rp, rd, nv + 1, 0⟩) := hide (by rw [fchX, unhide HY]; rfl)
              go_wp2_with fail
              refine (unhide CL _).mono ?_
              rintro e w4 ⟨rfl, hb4⟩
              have R5 := hide ((unhide R4).next hb4)
              have B5 := hide (nnext (unhide B4) hb4)
              have X5 := hide ((unhide X4).next hb4)
              have D5 : w4.cell? ⟨w1.heap.size, 5, none⟩ = some (.int .i64 nv) := by rw [hb4.cell (p := ⟨w1.heap.size, 5, none⟩) (World.block_lt_of_cell? _ _ D4)]; exact D4
              have k3 := (unhide X5).c3
              have f3 := (unhide X5).f 3
              have hgw5 := (unhide X5).lt
              obtain ⟨e0, e1, e2, e3, e4, e5, e6, e7, e8⟩ := (unhide R5).nine
              simp only at e0 e1 e2 e3 e4 e5 e6 e7 e8
              have hne : w.heap.size + 1 ≠ g := by omega
              clear d0 d1 d2 d3 d4 d5 d6 d7 d8 hb4 R4 B4 X4 D4 CL
              go_wp2_with fail
              refine (unhide CD _).mono ?_
              rintro e w6 ⟨rfl, hb6⟩
              have hgw6 : g < (w4.setCell ⟨g, 3, none⟩ (.string ⟨rp.toArray⟩)).heap.size := by simp; omega
              have B6 : Hid (Below u.heap.size u w6) := hide (nnext ((unhide B5).setCell (by exact hg) _) hb6)
              have X6 := hide (((unhide X5).p rp).next hb6)
              have D6 : w6.cell? ⟨w1.heap.size, 5, none⟩ = some (.int .i64 nv) := by
                have D7 := cell_other (a := ⟨g, 3, none⟩) (v := .string ⟨rp.toArray⟩) D5 (by simp only; omega)
                rw [hb6.cell (p := ⟨w1.heap.size, 5, none⟩) (World.block_lt_of_cell? _ _ D7)]
                exact D7
              have k4 := (unhide X6).c4
              have f4 := (unhide X6).f 4
              have k5 := (unhide X6).c5
              have f5 := (unhide X6).f 5
              clear hb6 R5 B5 X5 D5 k3 f3 CD
              go_wp2_with fail
              go_ret
              exact givesF_ok (unhide HF) rfl (((unhide B6).setCell hg _).setCell hg _) (by rw [unhide HX]; exact ((unhide X6).d rd).v (nv + 1))
        · have HF : Hid (fchE t ⟨ro, rs, rp, rd, rv, rf⟩ = 9) := hide ((fch_some (unhide HG) (unhide HM) (unhide HL)).trans (if_neg (by rw [unhide HV]; exact hv)))
          have hb1 : (rv != -1) = true := by simp; omega
          have hb2 : (rv != nv) = true := by simp; omega
          clear HN HE HG HM HL HV hv
          go_wp2_with fail
          go_ret
          exact givesFl_no (unhide HF) (by decide) rfl (unhide B4)
    · rw [show decide (rs ∈ t.ss) = false from decide_eq_false hm]
      have HM := hide hm
      clear hm
      go_wp2_with fail
      go_ret
      exact givesFl_no (fch_shut (unhide HG) (unhide HM)) (by decide) rfl (unhide B4)

end Go.Proofs.YtoacignhobchbaaGreatDoor

namespace Go.Proofs.YtoacignhobchbaaGreatDoor
open Go.RowKit

set_option maxRecDepth 20000 in
set_option maxHeartbeats 4000000 in
theorem pnumber_any (t : Tr) (vn vs : Value) (r : Rq) (x : WTxn) (g : Nat) (u w : World) (gt : GoodT t) (hn : SeqV u vn t.ns) (hb : Below u.heap.size u w) (hg : u.heap.size ≤ g) (hx : TAt w g x) (hxp : x.p = r.p) (htab : Lib.TabIs Tryz.prog u "internal/strconv.uint64pow10" .u64 Lib.pow10Tab) :
    Calls Tryz.prog 88 #[.pointer (some ⟨g, 0, none⟩), .agg #[.int .i64 t.z, vn, vs]] w (GivesFl u g (numE t r) { x with p := numP t r }) := by
  have CS := hide (fun W => split_any r.p W)
  have CG := hide (fun W (hW : Below u.heap.size u W) => tget_any t vn vs (dirOf r.p) W gt (hn.next hW))
  have hdl := dirOf_len r.p
  have hsl : (stepOf r.p).length ≤ 200 := by
    rw [stepOf]
    split
    · rename_i h
      obtain ⟨a, b, e, hb⟩ := good_cut h.1
      rw [e, lastCut_some b hb a]
      have := goodB_le h.1
      rw [e] at this
      simp at this ⊢
      omega
    · simp
  have CN := hide (fun (n : Int) W (hW : Below u.heap.size u W) => serial_any ⟨(stepOf r.p).toArray⟩ n W (by show (stepOf r.p).length ≤ _; omega) (tab_kept htab hW))
  have CJ := hide (fun (m : List UInt8) (hm : m.length ≤ 140737488355328) W => join_any (dirOf r.p) m W hm)
  obtain ⟨na, nc, rfl⟩ := seq_slice hn
  unfold nodeV at CG
  rw [← hxp] at CS
  have k3 := hx.c3
  rw [hxp] at k3 CS
  have X0 := hide hx
  have B0 := hide hb
  have hgl := hx.lt
  have K0 : ∀ W, Below (w.alloc (.cells #[.int .i64 t.z, .slice na t.ns.length nc, vs] 34)).heap.size (w.alloc (.cells #[.int .i64 t.z, .slice na t.ns.length nc, vs] 34)) W → W.heap[w.heap.size]? = some (.cells #[.int .i64 t.z, .slice na t.ns.length nc, vs] 34 (0, 0)) := fun W hW => (hW.block _ (by simp)).trans (heap_alloc_new w _)
  have HK := hide K0
  have HXP := hide hxp
  clear hn hb hx K0 hxp
  go_enter Tryz.func88, Tryz.ntmps88
  go_wp2_with fail
  refine (unhide CS _).mono ?_
  rintro e w1 ⟨rfl, hb1⟩
  have T1 := unhide HK w1 hb1
  have B1 := hide (nnext (unhide B0) (nbox_then hb1))
  have X1 := hide ((unhide X0).next (nbox_then hb1))
  have c0 : w1.cell? ⟨w.heap.size, 0, none⟩ = some (.int .i64 t.z) := by simp [World.cell?, T1]
  have c1 : w1.cell? ⟨w.heap.size, 1, none⟩ = some (.slice na t.ns.length nc) := by simp [World.cell?, T1]
  have c2 : w1.cell? ⟨w.heap.size, 2, none⟩ = some vs := by simp [World.cell?, T1]
  clear hb1 T1 B0 X0 CS HK k3
  obtain ⟨D, hD⟩ : ∃ D, dirOf r.p = D := ⟨_, rfl⟩
  obtain ⟨S, hS⟩ : ∃ S, stepOf r.p = S := ⟨_, rfl⟩
  rw [hD] at CG hdl CJ ⊢
  rw [hS] at CN hsl ⊢
  have HD := hide hD
  have HS := hide hS
  clear hD hS
  go_wp2_with fail
  refine (unhide CG _ (unhide B1)).mono ?_
  rintro e w2 ⟨rfl, hb2⟩
  have B2 := hide (nnext (unhide B1) hb2)
  have X2 := hide ((unhide X1).next hb2)
  clear hb2 B1 X1 c0 c1 c2 CG
  cases hl : lookN t.ns D with
  | none =>
    obtain ⟨h1, h2⟩ := get_none hl
    have HL := hide hl
    rw [h1, h2]
    clear hl h1 h2
    unfold nzero
    simp only
    go_wp2_with fail
    go_ret
    exact givesFl_no (num_none (by rw [unhide HD]; exact unhide HL)) (by decide) rfl (nnext (unhide B2) (allocB _ _))
  | some n =>
    obtain ⟨h1, h2⟩ := get_some hl
    have HL := hide hl
    rw [h1, h2]
    clear hl h1 h2
    obtain ⟨np, nd, nc', nm, nq, nv, nk, no, nn⟩ := n
    simp only
    have B3 := hide (nnext (unhide B2) (allocB w2 (.cells #[.string ⟨np.toArray⟩, .string ⟨nd.toArray⟩, .int .i64 nc', .int .i64 nm, .int .i64 nq, .int .i64 nv, .int .i64 nk, .int .i64 no, .int .i64 nn] 70)))
    go_wp2_with fail
    refine (unhide CN nk _ (unhide B3)).mono ?_
    rintro e w3 ⟨rfl, hb3⟩
    rw [serS_list]
    have B4 := hide (nnext (unhide B3) hb3)
    have X4 := hide ((unhide X2).next (nbox_then hb3))
    have hml := serL_len S nk
    have CJ1 := hide (unhide CJ (serL S nk) (by omega))
    have NS : Hid (serE S nk ≠ 0 → numE t r = serE S nk) := hide (fun h => by
      have h' := num_ser (t := t) (r := r) (u := ⟨np, nd, nc', nm, nq, nv, nk, no, nn⟩) (by rw [unhide HD]; exact unhide HL) (by rw [unhide HS]; exact h)
      rw [unhide HS] at h'
      exact h')
    have NJ : Hid (serE S nk = 0 → numE t r = joinE D (serL S nk)) := hide (fun h => by
      have h' := num_join (t := t) (r := r) (u := ⟨np, nd, nc', nm, nq, nv, nk, no, nn⟩) (by rw [unhide HD]; exact unhide HL) (by rw [unhide HS]; exact h)
      rw [unhide HS, unhide HD] at h'
      exact h')
    have NP : Hid (numP t r = joinS D (serL S nk)) := hide (by
      rw [numP, unhide HD, unhide HS, cv_some (u := ⟨np, nd, nc', nm, nq, nv, nk, no, nn⟩) (by rw [unhide HD]; exact unhide HL)])
    clear hb3 B3 X2 B2 CN CJ HL HD HS
    generalize serL S nk = M at *
    generalize serE S nk = F at *
    by_cases hF : F = 0
    · subst hF
      have HN := hide (unhide NJ rfl)
      clear NS NJ
      go_wp2_with fail
      refine (unhide CJ1 _).mono ?_
      rintro e w4 ⟨rfl, hb4⟩
      have B5 := hide (nnext (unhide B4) hb4)
      have X5 := hide ((unhide X4).next hb4)
      have k3 := (unhide X5).c3
      have f3 := (unhide X5).f 3
      clear hb4 B4 X4 CJ1
      generalize joinS D M = J at *
      generalize joinE D M = G at *
      go_wp2_with fail
      go_ret
      refine ⟨?_, (unhide B5).setCell hg _, fun _ => ?_⟩
      · rw [unhide HN]; rfl
      · rw [unhide NP]; exact (unhide X5).p J
    · have hFb : (F != 0) = true := by simpa using hF
      have HN := hide (unhide NS hF)
      have HF := hide hF
      clear NS NJ hF
      go_wp2_with fail
      go_ret
      exact givesFl_no (unhide HN) (unhide HF) rfl (unhide B4)

end Go.Proofs.YtoacignhobchbaaGreatDoor
