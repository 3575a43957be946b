/-
  What path.Serial answers, for every name and number: the walk.
  What path.Serial answers, for every name and every number, in one contract.
-/
import Derived.Test.YtalnmhgedfgooaaGreatDoorMA
import Derived.Test.YtalnmhgedfgooaaGreatDoorShelf
import Derived.WalkSmall
namespace Go.Proofs.YtalnmhgedfgooaaGreatDoor
open Go.RowKit

theorem below_grow (w : World) (k : Nat) (os : Array Obj) : Below w.heap.size w (Sort.grow (w.drewN k) os) :=
  ⟨rfl, rfl, rfl, by simp [Sort.grow, World.drewN], fun i hi => by simp [Sort.grow, World.drewN, Array.getElem?_append_left hi]⟩

theorem ret_str2 {a b : ByteArray} {i j : Int} (h : a = b) (h' : i = j) : Ending.returned (.tuple #[.string a, .int .i64 i]) = .returned (.tuple #[.string b, .int .i64 j]) := by rw [h, h']
theorem ba_eq {a : ByteArray} {l : List UInt8} (h : a.data.toList = l) : a = ⟨l.toArray⟩ := by
  rw [← h]

/-- what comes of a text that should be a step: itself and no error, or nothing and ErrForm -/
def stepS (l : List UInt8) : ByteArray := if namedB l then ⟨l.toArray⟩ else ⟨#[]⟩
def stepE (l : List UInt8) : Int := if namedB l then 0 else 2
theorem stepS_yes {l : List UInt8} (h : namedB l = true) : stepS l = ⟨l.toArray⟩ := by rw [stepS, if_pos h]
theorem stepE_yes {l : List UInt8} (h : namedB l = true) : stepE l = 0 := by rw [stepE, if_pos h]
theorem stepS_no {l : List UInt8} (h : namedB l = false) : stepS l = ⟨#[]⟩ := by rw [stepS, if_neg (by simp [h])]
theorem stepE_no {l : List UInt8} (h : namedB l = false) : stepE l = 2 := by rw [stepE, if_neg (by simp [h])]

theorem cat_data (name : ByteArray) (R D : List UInt8) : (name ++ ⟨R.toArray⟩ ++ ⟨D.toArray⟩ : ByteArray).data.toList = name.data.toList ++ (R ++ D) := by
  simp [ByteArray.data_append]
theorem cat_size (name : ByteArray) (R D : List UInt8) : (name ++ ⟨R.toArray⟩ ++ ⟨D.toArray⟩ : ByteArray).size = name.size + R.length + D.length := by
  rw [ByteArray.size_append, ByteArray.size_append]; rfl

set_option maxHeartbeats 400000 in
theorem serial_out (name : ByteArray) (n : Int) (w : World) (hn : n < 0 ∨ 2147483647 < n) :
    Calls Tryz.prog 86 #[.string name, .int .i64 n] w fun e w' => e = .returned (.tuple #[.string ⟨#[]⟩, .int .i64 3]) ∧ w' = w := by
  rcases hn with h | h
  · go_enter Tryz.func86, Tryz.ntmps86
    go_wp2_with fail
    go_ret2
    exact ⟨rfl, rfl⟩
  · have h' : ¬ n < 0 := by omega
    go_enter Tryz.func86, Tryz.ntmps86
    go_wp2_with fail
    go_ret2
    exact ⟨rfl, rfl⟩

set_option maxHeartbeats 400000 in
theorem serial_in (name : ByteArray) (n : Nat) (w : World) (hn : n ≤ 2147483647) (hs : name.size ≤ 140737488355328)
    (htab : Lib.TabIs Tryz.prog w "internal/strconv.uint64pow10" .u64 Lib.pow10Tab) :
    Calls Tryz.prog 86 #[.string name, .int .i64 n] w fun e w' =>
      e = .returned (.tuple #[.string (stepS (name.data.toList ++ ten n)), .int .i64 (stepE (name.data.toList ++ ten n))]) ∧ Below w.heap.size w w' := by
  have hd := nDigits_le_ten n hn
  have hp := Lib.nDigits_pos n
  have Hten := hide (ten_eq n hn)
  have Hit := hide (Lib.itoa_nonneg n)
  have Hlen := hide (Lib.decDigits_length n)
  go_enter Tryz.func86, Tryz.ntmps86
  go_wp2_with fail
  refine (Tryz.strconv_Itoa _ (by omega) (by omega) _ htab).mono ?_
  rintro e w1 ⟨rfl, k, os, hw1⟩
  have hb1 : Below w.heap.size w w1 := by rw [hw1]; exact below_grow w k os
  clear hw1
  rw [unhide Hit]
  generalize hD : Lib.decDigits n = D
  have hDl : D.length = Lib.nDigits n := by rw [← hD]; exact unhide Hlen
  have HD := hide hD
  clear hD
  have hD1 : 1 ≤ D.length := by omega
  have hD10 : D.length ≤ 10 := by omega
  clear hDl hd hp
  go_wp2_with fail
  rw [show (10 - (D.length : Int)) = ((10 - D.length : Nat) : Int) from by omega]
  refine (Tryz.strings_Repeat _ _ _ (by omega) (by show 1 * _ ≤ _; omega)).mono ?_
  rintro e w2 ⟨rfl, hb2⟩
  generalize hR : Lib.repeatL (ByteArray.mk #[48]).data.toList (10 - D.length) = R
  have hR' : Lib.repeatL [48] (10 - D.length) = R := hR
  have hRl : R.length ≤ 10 := by rw [← hR', Lib.repeatL_length]; simp
  have HR : Hid (R ++ D = ten n) := by
    have h1 := unhide Hten
    have h2 := unhide HD
    rw [h2, hR'] at h1
    exact h1
  clear hR hR' Hten HD Hit Hlen
  go_wp2_with fail
  generalize hX : (name ++ ⟨R.toArray⟩ ++ ⟨D.toArray⟩ : ByteArray) = X
  have HX : Hid (X.data.toList = name.data.toList ++ ten n) := by
    rw [← unhide HR, ← hX]; exact cat_data name R D
  have hXs : X.size ≤ maxLen := by
    unfold maxLen
    rw [← hX, cat_size]; omega
  clear hX HR
  refine (named_any X _ hXs).mono ?_
  rintro e w3 ⟨rfl, rfl⟩
  cases hnm : namedB X.data.toList
  · go_wp2_with fail
    go_ret2
    rw [unhide HX] at hnm
    exact ⟨ret_str2 (stepS_no hnm).symm (stepE_no hnm).symm, hb1.trans (hb2.mono hb1.size)⟩
  · go_wp2_with fail
    go_ret2
    rw [unhide HX] at hnm
    exact ⟨ret_str2 ((ba_eq (unhide HX)).trans (stepS_yes hnm).symm) (stepE_yes hnm).symm, hb1.trans (hb2.mono hb1.size)⟩

end Go.Proofs.YtalnmhgedfgooaaGreatDoor

namespace Go.Proofs.YtalnmhgedfgooaaGreatDoor
open Go.RowKit

/-- what Serial answers: the step, or nothing; and the error's number -/
def serS (l : List UInt8) (n : Int) : ByteArray := if 0 ≤ n ∧ n ≤ 2147483647 then stepS (l ++ ten n.toNat) else ⟨#[]⟩
def serE (l : List UInt8) (n : Int) : Int := if 0 ≤ n ∧ n ≤ 2147483647 then stepE (l ++ ten n.toNat) else 3

theorem serial_any (name : ByteArray) (n : Int) (w : World) (hs : name.size ≤ 140737488355328) (htab : Lib.TabIs Tryz.prog w "internal/strconv.uint64pow10" .u64 Lib.pow10Tab) :
    Calls Tryz.prog 86 #[.string name, .int .i64 n] w fun e w' =>
      e = .returned (.tuple #[.string (serS name.data.toList n), .int .i64 (serE name.data.toList n)]) ∧ Below w.heap.size w w' := by
  by_cases h : 0 ≤ n ∧ n ≤ 2147483647
  · obtain ⟨k, rfl⟩ := Int.eq_ofNat_of_zero_le h.1
    refine (serial_in name k w (by omega) hs htab).mono ?_
    rintro e w' ⟨rfl, hb⟩
    exact ⟨ret_str2 (by rw [serS, if_pos h, Int.toNat_natCast]) (by rw [serE, if_pos h, Int.toNat_natCast]), hb⟩
  · refine (serial_out name n w (by omega)).mono ?_
    rintro e w' ⟨rfl, rfl⟩
    exact ⟨ret_str2 (by rw [serS, if_neg h]) (by rw [serE, if_neg h]), Below.refl _ _⟩

theorem serE_ne {l : List UInt8} {n : Int} (h : serE l n ≠ 0) : serS l n = ⟨#[]⟩ := by
  unfold serE at h
  unfold serS
  by_cases h1 : 0 ≤ n ∧ n ≤ 2147483647
  · rw [if_pos h1] at h ⊢
    cases h2 : namedB (l ++ ten n.toNat)
    · exact stepS_no h2
    · exact absurd (stepE_yes h2) h
  · rw [if_neg h1]
theorem serE_eq {l : List UInt8} {n : Int} (h : serE l n = 0) : 0 ≤ n ∧ n ≤ 2147483647 ∧ namedB (l ++ ten n.toNat) = true ∧ serS l n = ⟨(l ++ ten n.toNat).toArray⟩ := by
  unfold serE at h
  unfold serS
  by_cases h1 : 0 ≤ n ∧ n ≤ 2147483647
  · rw [if_pos h1] at h ⊢
    cases h2 : namedB (l ++ ten n.toNat)
    · rw [stepE_no h2] at h; exact absurd h (by decide)
    · exact ⟨h1.1, h1.2, rfl, stepS_yes h2⟩
  · rw [if_neg h1] at h; exact absurd h (by decide)
theorem gPow : Tryz.prog.globalNamed "internal/strconv.uint64pow10" = some 3 := by kernel_rfl
theorem tab_lt {w : World} (htab : Lib.TabIs Tryz.prog w "internal/strconv.uint64pow10" .u64 Lib.pow10Tab) : 3 < w.heap.size := by
  have hc := htab.cell gPow 0 (by decide)
  unfold World.cell? at hc
  cases ho : w.heap[3]? with
  | none => simp [ho] at hc
  | some o => exact (Array.getElem?_eq_some_iff.1 ho).1
theorem tab_kept {w w' : World} (htab : Lib.TabIs Tryz.prog w "internal/strconv.uint64pow10" .u64 Lib.pow10Tab) (hb : Below w.heap.size w w') : Lib.TabIs Tryz.prog w' "internal/strconv.uint64pow10" .u64 Lib.pow10Tab :=
  var?_below hb gPow (tab_lt htab) htab

end Go.Proofs.YtalnmhgedfgooaaGreatDoor
