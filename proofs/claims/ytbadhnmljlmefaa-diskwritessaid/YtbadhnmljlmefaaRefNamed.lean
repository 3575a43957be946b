/-
  What aviaryref.Named answers, for every text: the walk.
-/
import Derived.Test.YtbadhnmljlmefaaNamed
import Derived.Lib.ConvBytes
import Derived.Lib.Strings
namespace Go.Proofs.Ytbadhnmljlmefaa
open Go.RowKit

def okL : List UInt8 := [97, 98, 99, 100, 101, 102, 103, 104, 105, 106, 107, 108, 109, 110, 111, 112, 113, 114, 115, 116, 117, 118, 119, 120, 121, 122, 48, 49, 50, 51, 52, 53, 54, 55, 56, 57, 45, 95]
theorem ok_fin : ∀ n : Fin 256, okL.any (fun d => d == UInt8.ofNat n.val) = letterB (UInt8.ofNat n.val) := by decide +kernel
theorem ok_letter (c : UInt8) : okL.any (fun d => d == c) = letterB c := by
  have h := ok_fin ⟨c.toNat, c.toNat_lt⟩
  rwa [show UInt8.ofNat (⟨c.toNat, c.toNat_lt⟩ : Fin 256).val = c from by simp] at h

theorem any_take_succ (l : List UInt8) (j : Nat) (h : j < l.length) (c : UInt8) : (l.take (j + 1)).any (fun d => d == c) = ((l.take j).any (fun d => d == c) || l[j] == c) := by
  rw [List.take_succ_eq_append_getElem h, List.any_append]; simp

theorem val_bool {a b : Bool} (h : a = b) : Value.bool a = .bool b := by rw [h]
theorem u8_beq (c d : UInt8) : ((c.toNat : Int) == (d.toNat : Int)) = (d == c) := by
  rw [Bool.eq_iff_iff, beq_iff_eq, beq_iff_eq]
  constructor
  · intro h; exact (UInt8.toNat_inj.1 (by omega)).symm
  · rintro rfl; rfl
theorem ok_all (c : UInt8) : (okL.take 38).any (fun d => d == c) = okL.any (fun d => d == c) := rfl
theorem namedB_all {l : List UInt8} (h : l.all letterB = true) : namedB l = (decide (1 ≤ l.length) && decide (l.length ≤ 40)) := by
  rw [namedB, h, Bool.and_true]
theorem nm_true {n : Nat} (h : 0 < n) (h1 : n ≤ 40) : (decide (1 ≤ n) && decide (n ≤ 40)) = true := by
  rw [decide_eq_true (show 1 ≤ n from h), decide_eq_true h1]; rfl
theorem nm_long {n : Nat} (h1 : ¬ n ≤ 40) : (decide (1 ≤ n) && decide (n ≤ 40)) = false := by
  rw [decide_eq_false h1, Bool.and_false]
theorem nm_none {n : Nat} (h : ¬ 0 < n) : (decide (1 ≤ n) && decide (n ≤ 40)) = false := by
  rw [decide_eq_false (show ¬ 1 ≤ n from h), Bool.false_and]
theorem bytes_below (w : World) (e : TypeId) (s : ByteArray) : Below w.heap.size w (Lib.bytesWorld w e s) :=
  ⟨rfl, rfl, rfl, by rw [Lib.bytesWorld_size]; omega, fun k hk => Lib.bytesWorld_at_old w e s k hk⟩
theorem bytes_cell (w : World) (e : TypeId) (s : ByteArray) (l : List UInt8) (h : s.data.toList = l) (j : Nat) (hj : j < l.length) : (Lib.bytesWorld w e s).cell? ⟨w.heap.size, j, none⟩ = some (.int .u8 (l[j].toNat : Int)) := by
  subst h
  rw [Lib.bytesWorld_cell _ _ _ _ (by rw [Lib.size_eq]; exact hj), List.getD_eq_getElem?_getD, List.getElem?_eq_getElem hj]; rfl
theorem all_take_next {l : List UInt8} {k : Nat} (h : k < l.length) (p : UInt8 → Bool) (h1 : (l.take k).all p = true) (h2 : p l[k] = true) : (l.take (k + 1)).all p = true := by
  rw [List.take_succ_eq_append_getElem h, List.all_append, h1]; simpa using h2
theorem named_of_not {l : List UInt8} {k : Nat} (h : k < l.length) (h2 : letterB l[k] = false) : namedB l = false := by
  have : l.all letterB = false := by
    rw [List.all_eq_false]
    exact ⟨l[k], List.getElem_mem h, by simp [h2]⟩
  rw [namedB, this, Bool.and_false]

set_option maxHeartbeats 1000000 in
theorem refNamed_any (l : List UInt8) (w : World) (hl : l.length ≤ 140737488355328) :
    Calls Try.prog 37 #[.string ⟨l.toArray⟩] w fun e w' => e = .returned (.bool (namedB l)) ∧ Below w.heap.size w w' := by
  have hz : (ByteArray.mk l.toArray).size = l.length := Lib.size_eq ⟨l.toArray⟩
  have hconv : ∀ W s, (convert 9 66 (.string s)).run Try.prog W = .ok (.slice (some ⟨W.heap.size, 0, none⟩) s.size (grownCap W s.size 0 5)) (Lib.bytesWorld W 5 s) := fun W s =>
    Lib.run_convert_string_bytes W 9 66 5 s Try.underlying9 Try.underlying66 Try.underlying5
  go_enter Try.func37, Try.ntmps37
  go_wp2
  generalize hOK : (ByteArray.mk #[97, 98, 99, 100, 101, 102, 103, 104, 105, 106, 107, 108, 109, 110, 111, 112, 113, 114, 115, 116, 117, 118, 119, 120, 121, 122, 48, 49, 50, 51, 52, 53, 54, 55, 56, 57, 45, 95]) = OK
  have HOK : Hid (OK.data.toList = okL) := hide (by rw [← hOK]; rfl)
  have hOs : OK.size = 38 := by rw [← hOK]; rfl
  clear hOK
  generalize hW1 : Lib.bytesWorld w 5 ⟨l.toArray⟩ = W1
  have hs1 : W1.heap.size = w.heap.size + 1 := by rw [← hW1]; exact Lib.bytesWorld_size _ _ _
  have Hcell : Hid (∀ j (hj : j < l.length), W1.cell? ⟨w.heap.size, j, none⟩ = some (.int .u8 (l[j].toNat : Int))) := hide (fun j hj => by
    rw [← hW1]; exact bytes_cell w 5 ⟨l.toArray⟩ l rfl j hj)
  have hB1 : Below w.heap.size w W1 := by rw [← hW1]; exact bytes_below _ _ _
  clear hW1
  go_loopw [12] (fun i wr => ∃ k : Nat, k ≤ l.length ∧ i = .int .i64 k ∧ (l.take k).all letterB = true ∧ Below (w.heap.size + 1) W1 wr) (fun i _ => l.length - (intOf i).toNat)
  case atStart => exact ⟨0, Nat.zero_le _, rfl, by simp, Below.refl _ _⟩
  case round =>
    obtain ⟨k, hk, rfl, hall, hBr⟩ := hrel
    have Hall := hide hall
    clear hall
    by_cases hlt : k < l.length
    · have hc : wr.cell? ⟨w.heap.size, k, none⟩ = some (.int .u8 (l[k].toNat : Int)) := (hBr.cell (p := ⟨w.heap.size, k, none⟩) (by simp)).trans (unhide Hcell k hlt)
      generalize hcc : l[k] = c at hc
      have Hcc := hide hcc
      clear hcc
      have hcb := c.toNat_lt
      go_wp2
      generalize hW2 : Lib.bytesWorld wr 5 OK = W2
      have HW2 : Hid (∀ j (hj : j < okL.length), W2.cell? ⟨wr.heap.size, j, none⟩ = some (.int .u8 (okL[j].toNat : Int))) := hide (fun j hj => by
        rw [← hW2]; exact bytes_cell wr 5 OK okL (unhide HOK) j hj)
      have hB2 : Below (w.heap.size + 1) W1 W2 := by
        rw [← hW2]; exact hBr.trans ((bytes_below wr 5 OK).mono (by have := hBr.size; omega))
      clear hW2
      go_loop [6, 19] (fun t i => ∃ j : Nat, j ≤ 38 ∧ i = .int .i64 j ∧ t = .bool ((okL.take j).any (fun d => d == c))) (fun _ i => 38 - (intOf i).toNat)
      case atStart => exact ⟨0, Nat.zero_le _, rfl, by simp⟩
      case round =>
        obtain ⟨j, hj, rfl, rfl⟩ := hrel
        by_cases hjl : j < 38
        · have hd : W2.cell? ⟨wr.heap.size, j, none⟩ = some (.int .u8 ((okL[j]'hjl).toNat : Int)) := unhide HW2 j hjl
          have HS := hide (any_take_succ okL j hjl c)
          generalize hdd : okL[j]'hjl = d at hd
          have Hdd := hide hdd
          clear hdd
          cases hin : (okL.take j).any (fun d => d == c)
          · have Hin := hide hin
            clear hin
            go_wp2
            exact ⟨⟨j + 1, by omega, by go_num, val_bool (by rw [unhide HS, unhide Hin, unhide Hdd, Bool.false_or]; exact u8_beq c d)⟩, by simp [intOf]; omega⟩
          · have Hin := hide hin
            clear hin
            go_wp2
            exact ⟨⟨j + 1, by omega, by go_num, val_bool (by rw [unhide HS, unhide Hin, Bool.true_or])⟩, by simp [intOf]; omega⟩
        · have hj38 : j = 38 := by omega
          subst hj38
          rw [ok_all, ok_letter c]
          cases hlc : letterB c
          · have Hlc := hide hlc
            clear hlc
            go_wp2
            go_ret
            exact ⟨ret_bool (named_of_not hlt (by rw [unhide Hcc]; exact unhide Hlc)).symm, hB1.trans (hB2.mono (by omega))⟩
          · have Hlc := hide hlc
            clear hlc
            go_wp2
            exact ⟨⟨k + 1, by omega, by go_num, all_take_next hlt letterB (unhide Hall) (by rw [unhide Hcc]; exact unhide Hlc), hB2⟩, by simp [intOf]; omega⟩
    · have hke : k = l.length := by omega
      subst hke
      have hall' : l.all letterB = true := by
        have := unhide Hall
        rwa [List.take_length] at this
      have Hn := hide (namedB_all hall')
      clear hall' Hall
      have hfin : Below w.heap.size w wr := hB1.trans (hBr.mono (by omega))
      by_cases h0 : 0 < l.length
      · by_cases h40 : l.length ≤ 40
        · go_wp2
          go_ret
          exact ⟨ret_bool (by rw [unhide Hn]; first | exact (nm_true h0 h40).symm | exact (decide_eq_true (by omega)).trans (nm_true h0 h40).symm), hfin⟩
        · go_wp2
          go_ret
          exact ⟨ret_bool (by rw [unhide Hn]; first | exact (nm_long h40).symm | exact (decide_eq_false (by omega)).trans (nm_long h40).symm), hfin⟩
      · go_wp2
        go_ret
        exact ⟨ret_bool (by rw [unhide Hn]; first | exact (nm_none h0).symm | exact (decide_eq_false (by omega)).trans (nm_none h0).symm), hfin⟩

end Go.Proofs.Ytbadhnmljlmefaa
