/-
  ZxidBack and ZxidOnly: the laws' walks, out of the contracts of Text, Read, Make, Good, Epoch and Count.
-/
import Derived.Test.YtpdlefafgbdadaaDoorZxRead
import Derived.Test.YtpdlefafgbdadaaDoorZxText
import Derived.Test.YtpdlefafgbdadaaDoorZxNumbers
namespace Go.Proofs.YtpdlefafgbdadaaDoor
open Go.RowKit

theorem zText_len (z : Int) : (zText z).length ≤ 21 := by
  cases hg : zGood z
  · rw [(zText_no hg).1]; decide
  · have hz := zGood_iff.1 hg
    rw [(zText_yes hg).1]
    have h1 := dec_len 9 (z / 2147483648).toNat (by omega)
    have h2 := dec_len 9 (z % 2147483648).toNat (by omega)
    simp; omega

set_option maxHeartbeats 1000000 in
theorem zxidBack_walk (z : Int) (w : World) (htab : Lib.TabIs Tryd.prog w "internal/strconv.uint64pow10" .u64 Lib.pow10Tab) :
    Calls Tryd.prog 4 #[.int .i64 z] w fun e w' => e = .returned (.bool true) ∧ Below w.heap.size w w' := by
  have Htab := hide htab
  clear htab
  cases hg : zGood z
  · have H := hide (zText_no hg)
    have Hg := hide hg
    clear hg
    go_enter Tryd.func4, Tryd.ntmps4
    go_wp2_with fail
    refine (ztext_any z _ (unhide Htab)).mono ?_
    rintro e w1 ⟨rfl, hb1⟩
    rw [(unhide H).1, (unhide H).2]
    go_wp2_with fail
    refine (zgood_any z _).mono ?_
    rintro e w2 ⟨rfl, rfl⟩
    rw [unhide Hg]
    go_wp2_with fail
    refine (numbers_any _).mono ?_
    rintro e w2 ⟨rfl, rfl⟩
    go_wp2_with fail
    go_ret
    exact ⟨rfl, hb1⟩
  have H := hide (zText_yes hg).2
  have HR := hide (read_text hg)
  have hl := zText_len z
  have hz := zGood_iff.1 hg
  have Hg := hide hg
  have HM := hide (zMake_yes (e := zEpoch z) (c := zCount z) (by rw [zEpoch_yes hg]; exact zIn_iff.2 (by omega)) (by rw [zCount_yes hg]; exact zIn_iff.2 (by omega)))
  have HZ : Hid (zEpoch z * 2147483648 + zCount z = z) := hide (by rw [zEpoch_yes hg, zCount_yes hg]; omega)
  obtain ⟨A, hA⟩ : ∃ A, zText z = A := ⟨_, rfl⟩
  rw [hA] at HR hl
  have HA := hide hA
  clear hg hz hA
  go_enter Tryd.func4, Tryd.ntmps4
  go_wp2_with fail
  refine (ztext_any z _ (unhide Htab)).mono ?_
  rintro e w1 ⟨rfl, hb1⟩
  rw [unhide HA, unhide H]
  go_wp2_with fail
  refine (numbers_any _).mono ?_
  rintro e w2 ⟨rfl, rfl⟩
  go_wp2_with fail
  refine (zread_any A _ (by omega)).mono ?_
  rintro e w3 ⟨rfl, hb3⟩
  replace hb3 := zbelow_next hb1 hb3
  clear hb1
  rw [(unhide HR).1, (unhide HR).2]
  go_wp2_with fail
  refine (zepoch_any z _).mono ?_
  rintro e w4 ⟨rfl, rfl⟩
  obtain ⟨P, hP⟩ : ∃ P, zEpoch z = P := ⟨_, rfl⟩
  rw [hP] at HM HZ ⊢
  go_wp2_with fail
  refine (zcount_any z _).mono ?_
  rintro e w4 ⟨rfl, rfl⟩
  obtain ⟨C, hC⟩ : ∃ C, zCount z = C := ⟨_, rfl⟩
  rw [hC] at HM HZ ⊢
  clear hP hC
  go_wp2_with fail
  refine (zmake_any P C _).mono ?_
  rintro e w4 ⟨rfl, rfl⟩
  rw [(unhide HM).1, (unhide HM).2, unhide HZ]
  go_wp2_with fail
  refine (zgood_any z _).mono ?_
  rintro e w4 ⟨rfl, rfl⟩
  rw [unhide Hg]
  go_wp2_with fail
  go_ret
  exact ⟨rfl, hb3⟩

set_option maxHeartbeats 1000000 in
theorem zxidOnly_walk (l : List UInt8) (w : World) (hl : l.length ≤ 140737488355328) (htab : Lib.TabIs Tryd.prog w "internal/strconv.uint64pow10" .u64 Lib.pow10Tab) :
    Calls Tryd.prog 5 #[.string ⟨l.toArray⟩] w fun e w' => e = .returned (.bool true) ∧ Below w.heap.size w w' := by
  have Htab := hide htab
  clear htab
  by_cases he : zReadE l = 0
  · have HE := hide he
    have HT := hide (text_read he)
    obtain ⟨Z, hZ⟩ : ∃ Z, zRead l = Z := ⟨_, rfl⟩
    rw [hZ] at HT
    have HZ := hide hZ
    clear he hZ
    go_enter Tryd.func5, Tryd.ntmps5
    go_wp2_with fail
    refine (zread_any l _ hl).mono ?_
    rintro e w1 ⟨rfl, hb1⟩
    rw [unhide HZ, unhide HE]
    go_wp2_with fail
    refine (numbers_any _).mono ?_
    rintro e w2 ⟨rfl, rfl⟩
    go_wp2_with fail
    refine (ztext_any Z _ (ztab_kept (unhide Htab) hb1)).mono ?_
    rintro e w3 ⟨rfl, hb3⟩
    replace hb3 := zbelow_next hb1 hb3
    clear hb1
    rw [(unhide HT).1, (unhide HT).2]
    go_wp2_with fail
    go_ret
    exact ⟨rfl, hb3⟩
  · have HZ := hide (read_zero he)
    have he' : (zReadE l != 0) = true := by simpa using he
    obtain ⟨E, hE⟩ : ∃ E, zReadE l = E := ⟨_, rfl⟩
    rw [hE] at he'
    have HE := hide hE
    clear he hE
    go_enter Tryd.func5, Tryd.ntmps5
    go_wp2_with fail
    refine (zread_any l _ hl).mono ?_
    rintro e w1 ⟨rfl, hb1⟩
    rw [unhide HZ, unhide HE]
    go_wp2_with fail
    refine (numbers_any _).mono ?_
    rintro e w2 ⟨rfl, rfl⟩
    go_wp2_with fail
    go_ret
    exact ⟨rfl, hb1⟩

end Go.Proofs.YtpdlefafgbdadaaDoor
