/-
  PathJoins: the law's walk out of the contracts of Join and Serial, the program's and the document's own.
-/
import Derived.Test.YtbhkhchkjckdjaaDoorRefSerial
import Derived.Test.YtbhkhchkjckdjaaDoorSerialAny
namespace Go.Proofs.YtbhkhchkjckdjaaDoor
open Go.RowKit

theorem refSerial_any (l : List UInt8) (n : Int) (w : World) (hs : l.length ≤ 1048576) :
    Calls Tryd.prog 20 #[.string ⟨l.toArray⟩, .int .i64 n] w fun e w' =>
      e = .returned (.tuple #[.string (serS l n), .int .i64 (serE l n)]) ∧ Below w.heap.size w w' := by
  by_cases h : 0 ≤ n ∧ n ≤ 2147483647
  · obtain ⟨k, rfl⟩ := Int.eq_ofNat_of_zero_le h.1
    refine (refSerial_in l k w (by omega) hs).mono ?_
    rintro e w' ⟨rfl, hb⟩
    exact ⟨ret_str2 (by rw [serS, if_pos h, Int.toNat_natCast]) (by rw [serE, if_pos h, Int.toNat_natCast]), hb⟩
  · refine (refSerial_out _ n w (by omega)).mono ?_
    rintro e w' ⟨rfl, rfl⟩
    exact ⟨ret_str2 (by rw [serS, if_neg h]) (by rw [serE, if_neg h]), Below.refl _ _⟩
theorem join_a (W : World) : Calls Tryd.prog 17 #[.string ⟨#[47]⟩, .string ⟨#[97]⟩] W fun e w' => e = .returned (.tuple #[.string ⟨#[47, 97]⟩, .int .i64 0]) ∧ Below W.heap.size W w' := by
  have h := join_any [47] [97] W (by decide)
  rw [show joinS [47] [97] = [47, 97] from by decide +kernel, show joinE [47] [97] = 0 from by decide +kernel] at h
  exact h

set_option maxHeartbeats 1000000 in
theorem pathJoins_walk (d m : List UInt8) (n : Int) (w : World) (hd : d.length ≤ 1048576) (hm : m.length ≤ 1048576)
    (htab : Lib.TabIs Tryd.prog w "internal/strconv.uint64pow10" .u64 Lib.pow10Tab) :
    Calls Tryd.prog 5 #[.string ⟨d.toArray⟩, .string ⟨m.toArray⟩, .int .i64 n] w fun e w' => e = .returned (.bool true) ∧ Below w.heap.size w w' := by
  have hz : (ByteArray.mk m.toArray).size = m.length := Lib.size_eq ⟨m.toArray⟩
  have Htab := hide htab
  clear htab
  generalize hA : joinS d m = A
  generalize hE : joinE d m = E
  have HA := hide hA
  have HE := hide hE
  clear hA hE
  generalize hB : serS m n = B
  generalize hF : serE m n = F
  have HB := hide hB
  have HF := hide hF
  clear hB hF
  go_enter Tryd.func5, Tryd.ntmps5
  go_wp2_with fail
  refine (join_any d m _ (by omega)).mono ?_
  rintro e w1 ⟨rfl, hb1⟩
  rw [unhide HA, unhide HE]
  go_wp2_with fail
  refine (refJoin_any d m _ hd hm).mono ?_
  rintro e w2 ⟨rfl, hb2⟩
  replace hb2 := below_next hb1 hb2
  clear hb1
  rw [unhide HA, unhide HE]
  go_wp2_with fail
  refine (serial_any _ n _ (by omega) (tab_kept (unhide Htab) hb2)).mono ?_
  rintro e w3 ⟨rfl, hb3⟩
  replace hb3 := below_next hb2 hb3
  clear hb2
  rw [show (ByteArray.mk m.toArray).data.toList = m from rfl, unhide HB, unhide HF]
  go_wp2_with fail
  refine (refSerial_any m n _ hm).mono ?_
  rintro e w4 ⟨rfl, hb4⟩
  replace hb4 := below_next hb3 hb4
  clear hb3
  rw [unhide HB, unhide HF]
  go_wp2_with fail
  refine (join_a _).mono ?_
  rintro e w5 ⟨rfl, hb5⟩
  replace hb5 := below_next hb4 hb5
  clear hb4 HA HE HB HF
  go_wp2_with fail
  go_ret
  exact ⟨rfl, hb5⟩

end Go.Proofs.YtbhkhchkjckdjaaDoor
