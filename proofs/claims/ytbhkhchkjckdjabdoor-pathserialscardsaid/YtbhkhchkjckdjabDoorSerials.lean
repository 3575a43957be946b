/-
  PathSerials: the law's walk, out of the contracts of Serial and Named.
-/
import Derived.Test.YtbhkhchkjckdjabDoorSerialAny
namespace Go.Proofs.YtbhkhchkjckdjabDoor
open Go.RowKit

theorem serS_q : serS (ByteArray.mk #[113]).data.toList 7 = ⟨#[113, 48, 48, 48, 48, 48, 48, 48, 48, 48, 55]⟩ := by decide +kernel

theorem cat_ten_size {A : ByteArray} {l : List UInt8} {n : Nat} (h : A = ⟨(l ++ ten n).toArray⟩) : A.size = l.length + 10 := by
  rw [h]
  show (l ++ ten n).toArray.size = _
  rw [List.size_toArray, List.length_append, ten_length]
theorem cat_ten_front {A name : ByteArray} {n : Nat} (h : A = ⟨(name.data.toList ++ ten n).toArray⟩) : (A.extract 0 name.size).toList = name.toList := by
  rw [Lib.extract_toList, Lib.toList_data, h, List.drop_zero, Nat.sub_zero, ← size_list name]
  exact List.take_left
theorem cat_ten_less {A B : ByteArray} {l : List UInt8} {n m : Int} (hA : A = ⟨(l ++ ten n.toNat).toArray⟩) (hB : B = ⟨(l ++ ten m.toNat).toArray⟩) (n0 : 0 ≤ n) (n1 : n ≤ 2147483647) (m0 : 0 ≤ m) (m1 : m ≤ 2147483647) :
    Op.bytesLess A.toList B.toList = decide (n < m) := by
  rw [Lib.toList_data, Lib.toList_data, hA, hB]
  show Op.bytesLess (l ++ ten n.toNat) (l ++ ten m.toNat) = _
  rw [less_serial l _ _ (by omega) (by omega), Bool.eq_iff_iff]
  simp only [decide_eq_true_eq]
  omega
theorem cat_ten_same {A B : ByteArray} {l : List UInt8} {n m : Int} (hA : A = ⟨(l ++ ten n.toNat).toArray⟩) (hB : B = ⟨(l ++ ten m.toNat).toArray⟩) (n0 : 0 ≤ n) (n1 : n ≤ 2147483647) (m0 : 0 ≤ m) (m1 : m ≤ 2147483647) :
    (A.toList == B.toList) = (n == m) := by
  rw [Lib.toList_data, Lib.toList_data, hA, hB]
  show ((l ++ ten n.toNat) == (l ++ ten m.toNat)) = _
  rw [Bool.eq_iff_iff]
  simp only [beq_iff_eq]
  rw [same_serial l _ _ (by omega) (by omega)]
  omega

set_option maxHeartbeats 400000 in
theorem pathSerials_walk (name : ByteArray) (n m : Int) (w : World) (hs : name.size ≤ 140737488355328) (htab : Lib.TabIs Tryd.prog w "internal/strconv.uint64pow10" .u64 Lib.pow10Tab) :
    Calls Tryd.prog 4 #[.string name, .int .i64 n, .int .i64 m] w fun e w' => e = .returned (.bool true) ∧ Below w.heap.size w w' := by
  have tab : ∀ w', Below w.heap.size w w' → Lib.TabIs Tryd.prog w' "internal/strconv.uint64pow10" .u64 Lib.pow10Tab := by
    intro w' hb
    exact tab_kept htab hb
  go_enter Tryd.func4, Tryd.ntmps4
  go_wp2_with fail
  refine (serial_any name n w hs htab).mono ?_
  rintro e w1 ⟨rfl, hb1⟩
  generalize hA : serS name.data.toList n = A
  generalize hE : serE name.data.toList n = E
  have HA := hide hA
  have HE := hide hE
  clear hA hE
  go_wp2_with fail
  refine (serial_any name m w1 hs (tab w1 hb1)).mono ?_
  rintro e w2 ⟨rfl, hb2⟩
  generalize hB : serS name.data.toList m = B
  generalize hF : serE name.data.toList m = F
  have HB := hide hB
  have HF := hide hF
  clear hB hF
  have hb2' : Below w.heap.size w w2 := hb1.trans (hb2.mono hb1.size)
  clear hb1 hb2
  go_wp2_with fail
  refine (serial_any ⟨#[113]⟩ 7 w2 (by decide) (tab w2 hb2')).mono ?_
  rintro e w3 ⟨rfl, hb3⟩
  have hb3' : Below w.heap.size w w3 := hb2'.trans (hb3.mono hb2'.size)
  clear hb2' hb3
  rw [serS_q]
  generalize serE (ByteArray.mk #[113]).data.toList 7 = G
  by_cases hE0 : E = 0
  · by_cases hF0 : F = 0
    · subst hE0 hF0
      obtain ⟨n0, n1, hna, hAs⟩ := serE_eq (unhide HE)
      obtain ⟨m0, m1, hnb, hBs⟩ := serE_eq (unhide HF)
      rw [unhide HA] at hAs
      rw [unhide HB] at hBs
      have HAs := hide hAs
      have HBs := hide hBs
      have hAz : A.size = name.size + 10 := by rw [cat_ten_size hAs, size_list]
      have hsl := cat_ten_front hAs
      have hle := cat_ten_less hAs hBs n0 n1 m0 m1
      have hsm := cat_ten_same hAs hBs n0 n1 m0 m1
      clear hAs hBs hnb
      have HN : Hid (namedB A.data.toList = true) := by rw [unhide HAs]; exact hna
      clear hna
      go_wp2_with fail
      refine (named_any A _ (by unfold maxLen; omega)).mono ?_
      rintro e w4 ⟨rfl, rfl⟩
      rw [unhide HN]
      go_wp2_with fail
      go_ret
      exact ⟨rfl, hb3'⟩
    · subst hE0
      have hF1 : (F == 0) = false := beq_eq_false_iff_ne.2 hF0
      clear hF0 HA HB HE HF
      go_wp2_with fail
      go_ret
      exact ⟨rfl, hb3'⟩
  · obtain rfl : A = ⟨#[]⟩ := (unhide HA).symm.trans (serE_ne (by rw [unhide HE]; exact hE0))
    have hE1 : (E == 0) = false := beq_eq_false_iff_ne.2 hE0
    clear hE0 HA HB HE HF
    go_wp2_with fail
    go_ret
    exact ⟨rfl, hb3'⟩

end Go.Proofs.YtbhkhchkjckdjabDoor
