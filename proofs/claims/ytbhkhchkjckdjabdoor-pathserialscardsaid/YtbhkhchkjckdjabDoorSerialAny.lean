/-
  What path.Serial answers, for every name and every number, in one contract.
-/
import Derived.Test.YtbhkhchkjckdjabDoorSerial
namespace Go.Proofs.YtbhkhchkjckdjabDoor
open Go.RowKit

/-- what Serial answers: the step, or nothing; and the error's number -/
def serS (l : List UInt8) (n : Int) : ByteArray := if 0 ≤ n ∧ n ≤ 2147483647 then stepS (l ++ ten n.toNat) else ⟨#[]⟩
def serE (l : List UInt8) (n : Int) : Int := if 0 ≤ n ∧ n ≤ 2147483647 then stepE (l ++ ten n.toNat) else 3

theorem serial_any (name : ByteArray) (n : Int) (w : World) (hs : name.size ≤ 140737488355328) (htab : Lib.TabIs Tryd.prog w "internal/strconv.uint64pow10" .u64 Lib.pow10Tab) :
    Calls Tryd.prog 7 #[.string name, .int .i64 n] w fun e w' =>
      e = .returned (.tuple #[.string (serS name.data.toList n), .int .i64 (serE name.data.toList n)]) ∧ Below w.heap.size w w' := by
  by_cases h : 0 ≤ n ∧ n ≤ 2147483647
  · obtain ⟨k, rfl⟩ := Int.eq_ofNat_of_zero_le h.1
    refine (serial_in name k w (by omega) hs htab).mono ?_
    rintro e w' ⟨rfl, hb⟩
    exact ⟨ret_str2 (by rw [serS, if_pos h, Int.toNat_natCast]) (by rw [serE, if_pos h, Int.toNat_natCast]), hb⟩
  · refine (serial_out name n w (by omega)).mono ?_
    rintro e w' ⟨rfl, rfl⟩
    exact ⟨ret_str2 (by rw [serS, if_neg h]) (by rw [serE, if_neg h]), Below.refl _ _⟩

theorem serE_ne {l : List UInt8} {n : Int} (h : serE l n ≠ 0) : serS l n = ⟨#[]⟩ := by
  unfold serE at h
  unfold serS
  by_cases h1 : 0 ≤ n ∧ n ≤ 2147483647
  · rw [if_pos h1] at h ⊢
    cases h2 : namedB (l ++ ten n.toNat)
    · exact stepS_no h2
    · exact absurd (stepE_yes h2) h
  · rw [if_neg h1]
theorem serE_eq {l : List UInt8} {n : Int} (h : serE l n = 0) : 0 ≤ n ∧ n ≤ 2147483647 ∧ namedB (l ++ ten n.toNat) = true ∧ serS l n = ⟨(l ++ ten n.toNat).toArray⟩ := by
  unfold serE at h
  unfold serS
  by_cases h1 : 0 ≤ n ∧ n ≤ 2147483647
  · rw [if_pos h1] at h ⊢
    cases h2 : namedB (l ++ ten n.toNat)
    · rw [stepE_no h2] at h; exact absurd h (by decide)
    · exact ⟨h1.1, h1.2, rfl, stepS_yes h2⟩
  · rw [if_neg h1] at h; exact absurd h (by decide)
theorem gPow : Tryd.prog.globalNamed "internal/strconv.uint64pow10" = some 0 := by kernel_rfl
theorem tab_lt {w : World} (htab : Lib.TabIs Tryd.prog w "internal/strconv.uint64pow10" .u64 Lib.pow10Tab) : 0 < w.heap.size := by
  have hc := htab.cell gPow 0 (by decide)
  unfold World.cell? at hc
  cases ho : w.heap[0]? with
  | none => simp [ho] at hc
  | some o => exact (Array.getElem?_eq_some_iff.1 ho).1
theorem tab_kept {w w' : World} (htab : Lib.TabIs Tryd.prog w "internal/strconv.uint64pow10" .u64 Lib.pow10Tab) (hb : Below w.heap.size w w') : Lib.TabIs Tryd.prog w' "internal/strconv.uint64pow10" .u64 Lib.pow10Tab :=
  var?_below hb gPow (tab_lt htab) htab

end Go.Proofs.YtbhkhchkjckdjabDoor
