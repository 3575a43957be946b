/-
  What aviaryref.ZxidText answers, for every number: the walk.
-/
import Derived.Test.YtpdlefafgbdadaaDoorZxDec
import Derived.Test.YtpdlefafgbdadaaDoorZxRefParts
import Derived.Test.YtpdlefafgbdadaaDoorZxText
namespace Go.Proofs.YtpdlefafgbdadaaDoor
open Go.RowKit

set_option maxHeartbeats 1000000 in
theorem rtext_any (z : Int) (hm : z ≤ 9223372036854775807) (w : World) :
    Calls Tryd.prog 7 #[.int .i64 z] w fun e w' => e = .returned (.tuple #[.string ⟨(zText z).toArray⟩, .int .i64 (zTextE z)]) ∧ Below w.heap.size w w' := by
  cases hg : zGood z
  · have H := hide (zText_no hg)
    have Hg := hide hg
    clear hg
    go_enter Tryd.func7, Tryd.ntmps7
    go_wp2_with fail
    refine (rgood_any z hm _).mono ?_
    rintro e w1 ⟨rfl, rfl⟩
    rw [unhide Hg]
    go_wp2_with fail
    go_ret2
    exact ⟨zret_str2 (by rw [(unhide H).1]) (unhide H).2.symm, Below.refl _ _⟩
  have hz := zGood_iff.1 hg
  have h0 := hz.1
  have H := hide (zText_yes hg)
  have Hg := hide hg
  have q0 : (z / 2147483648) = ((z / 2147483648).toNat : Int) := by omega
  have r0 : (z % 2147483648) = ((z % 2147483648).toNat : Int) := by omega
  obtain ⟨q, hq⟩ : ∃ q, (z / 2147483648).toNat = q := ⟨_, rfl⟩
  obtain ⟨r, hr⟩ : ∃ r, (z % 2147483648).toNat = r := ⟨_, rfl⟩
  have q1 : q < 2147483648 := by omega
  have r1 : r < 2147483648 := by omega
  rw [hq] at q0
  rw [hr] at r0
  rw [hq, hr] at H
  have Q0 := hide q0
  have R0 := hide r0
  have lq := dec_len 9 q (by omega)
  have lr := dec_len 9 r (by omega)
  clear hg hz q0 r0 hq hr
  go_enter Tryd.func7, Tryd.ntmps7
  go_wp2_with fail
  refine (rgood_any z hm _).mono ?_
  rintro e w1 ⟨rfl, rfl⟩
  rw [unhide Hg]
  go_wp2_with fail
  rw [show z / 2147483648 = (q : Int) from unhide Q0]
  refine (zdecimal_any q (by omega) _).mono ?_
  rintro e w2 ⟨rfl, hb2⟩
  obtain ⟨D, hD⟩ : ∃ D, Lib.decDigits q = D := ⟨_, rfl⟩
  rw [hD] at lq H ⊢
  clear hD
  go_wp2_with fail
  rw [show z % 2147483648 = (r : Int) from unhide R0]
  refine (zdecimal_any r (by omega) _).mono ?_
  rintro e w3 ⟨rfl, hb3⟩
  replace hb3 := zbelow_next hb2 hb3
  obtain ⟨R, hR⟩ : ∃ R, Lib.decDigits r = R := ⟨_, rfl⟩
  rw [hR] at lr H ⊢
  clear hR hb2
  have zD : (ByteArray.mk D.toArray).size = D.length := Lib.size_eq ⟨D.toArray⟩
  have zR : (ByteArray.mk R.toArray).size = R.length := Lib.size_eq ⟨R.toArray⟩
  go_wp2_with fail
  go_ret2
  exact ⟨zret_str2 (by rw [(unhide H).1]; exact zcat_dot D R) (unhide H).2.symm, hb3⟩

end Go.Proofs.YtpdlefafgbdadaaDoor
