/-
  What zxid.Text answers, for every number: the walk.
-/
import Derived.Test.YtpdlefafgbdadaaDoorZxNum
import Derived.Test.YtpdlefafgbdadaaDoorZxDig
import Derived.Test.YtpdlefafgbdadaaDoorShelf
import Derived.Lib.ItoaMem
import Derived.WalkSmall
namespace Go.Proofs.YtpdlefafgbdadaaDoor
open Go.RowKit

theorem zbelow_grow (w : World) (k : Nat) (os : Array Obj) : Below w.heap.size w (Sort.grow (w.drewN k) os) :=
  ⟨rfl, rfl, rfl, by simp [Sort.grow, World.drewN], fun i hi => by simp [Sort.grow, World.drewN, Array.getElem?_append_left hi]⟩
theorem zret_str2 {a b : ByteArray} {i j : Int} (h : a = b) (h' : i = j) : Ending.returned (.tuple #[.string a, .int .i64 i]) = .returned (.tuple #[.string b, .int .i64 j]) := by rw [h, h']
theorem zbelow_next {w w1 w2 : World} (h : Below w.heap.size w w1) (h' : Below w1.heap.size w1 w2) : Below w.heap.size w w2 := h.trans (h'.mono h.size)
theorem zcat_dot (d m : List UInt8) : (ByteArray.mk d.toArray) ++ (ByteArray.mk #[46]) ++ (ByteArray.mk m.toArray) = ⟨(d ++ 46 :: m).toArray⟩ := by
  apply ByteArray.ext
  simp [ByteArray.data_append]
theorem zgPow : Tryd.prog.globalNamed "internal/strconv.uint64pow10" = some 1 := by kernel_rfl
theorem ztab_lt {w : World} (htab : Lib.TabIs Tryd.prog w "internal/strconv.uint64pow10" .u64 Lib.pow10Tab) : 1 < w.heap.size := by
  have hc := htab.cell zgPow 0 (by decide)
  unfold World.cell? at hc
  cases ho : w.heap[1]? with
  | none => simp [ho] at hc
  | some o => exact (Array.getElem?_eq_some_iff.1 ho).1
theorem ztab_kept {w w' : World} (htab : Lib.TabIs Tryd.prog w "internal/strconv.uint64pow10" .u64 Lib.pow10Tab) (hb : Below w.heap.size w w') : Lib.TabIs Tryd.prog w' "internal/strconv.uint64pow10" .u64 Lib.pow10Tab :=
  var?_below hb zgPow (ztab_lt htab) htab

set_option maxHeartbeats 400000 in
theorem ztext_any (z : Int) (w : World) (htab : Lib.TabIs Tryd.prog w "internal/strconv.uint64pow10" .u64 Lib.pow10Tab) :
    Calls Tryd.prog 6 #[.int .i64 z] w fun e w' => e = .returned (.tuple #[.string ⟨(zText z).toArray⟩, .int .i64 (zTextE z)]) ∧ Below w.heap.size w w' := by
  cases hg : zGood z
  · have H := hide (zText_no hg)
    have Hg := hide hg
    clear hg htab
    go_enter Tryd.func6, Tryd.ntmps6
    go_wp2_with fail
    refine (zgood_any z _).mono ?_
    rintro e w1 ⟨rfl, rfl⟩
    rw [unhide Hg]
    go_wp2_with fail
    go_ret2
    exact ⟨zret_str2 (by rw [(unhide H).1]) (unhide H).2.symm, Below.refl _ _⟩
  have hz := zGood_iff.1 hg
  have H := hide (zText_yes hg)
  have Hg := hide hg
  have q0 : (z / 2147483648) = ((z / 2147483648).toNat : Int) := by omega
  have r0 : (z % 2147483648) = ((z % 2147483648).toNat : Int) := by omega
  obtain ⟨q, hq⟩ : ∃ q, (z / 2147483648).toNat = q := ⟨_, rfl⟩
  obtain ⟨r, hr⟩ : ∃ r, (z % 2147483648).toNat = r := ⟨_, rfl⟩
  have q1 : q < 2147483648 := by omega
  have r1 : r < 2147483648 := by omega
  rw [hq] at q0
  rw [hr] at r0
  rw [hq, hr] at H
  have Ez : Hid (zEpoch z = (q : Int)) := hide (by rw [zEpoch_yes hg]; exact q0)
  have Cz : Hid (zCount z = (r : Int)) := hide (by rw [zCount_yes hg]; exact r0)
  have Htab := hide htab
  have Hiq := hide (Lib.itoa_nonneg q)
  have Hir := hide (Lib.itoa_nonneg r)
  have lq := dec_len 9 q (by omega)
  have lr := dec_len 9 r (by omega)
  clear hg hz q0 r0 hq hr htab
  go_enter Tryd.func6, Tryd.ntmps6
  go_wp2_with fail
  refine (zgood_any z _).mono ?_
  rintro e w1 ⟨rfl, rfl⟩
  rw [unhide Hg]
  go_wp2_with fail
  refine (zepoch_any z _).mono ?_
  rintro e w2 ⟨rfl, rfl⟩
  rw [unhide Ez]
  go_wp2_with fail
  refine (Tryd.strconv_Itoa _ (by omega) (by omega) _ (unhide Htab)).mono ?_
  rintro e w3 ⟨rfl, k, os, hw3⟩
  have hb3 : Below w2.heap.size w2 w3 := by rw [hw3]; exact zbelow_grow w2 k os
  clear hw3
  rw [unhide Hiq]
  obtain ⟨D, hD⟩ : ∃ D, Lib.decDigits q = D := ⟨_, rfl⟩
  rw [hD] at lq H ⊢
  clear hD
  go_wp2_with fail
  refine (zcount_any z _).mono ?_
  rintro e w4 ⟨rfl, rfl⟩
  rw [unhide Cz]
  go_wp2_with fail
  refine (Tryd.strconv_Itoa _ (by omega) (by omega) _ (ztab_kept (unhide Htab) hb3)).mono ?_
  rintro e w5 ⟨rfl, k, os, hw5⟩
  have hb5 : Below w2.heap.size w2 w5 := zbelow_next hb3 (by rw [hw5]; exact zbelow_grow w4 k os)
  clear hw5
  rw [unhide Hir]
  obtain ⟨R, hR⟩ : ∃ R, Lib.decDigits r = R := ⟨_, rfl⟩
  rw [hR] at lr H ⊢
  clear hR Hiq Hir Ez Cz Hg hb3
  have zD : (ByteArray.mk D.toArray).size = D.length := Lib.size_eq ⟨D.toArray⟩
  have zR : (ByteArray.mk R.toArray).size = R.length := Lib.size_eq ⟨R.toArray⟩
  go_wp2_with fail
  go_ret2
  exact ⟨zret_str2 (by rw [(unhide H).1]; exact zcat_dot D R) (unhide H).2.symm, hb5⟩

end Go.Proofs.YtpdlefafgbdadaaDoor
