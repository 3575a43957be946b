/-
  What zxid.Text answers, for every number: the walk.
  What aviaryref.GoodZxid answers, for every number: the walk.
  What aviaryref.Make, Next and Begin answer, for every number: the walks.
  What aviaryref.decimal answers: the walk.
  What aviaryref.ZxidText answers, for every number: the walk.
  What store.Remember and aviaryref.Remember answer: the walks.
  store.Follow: the walks.
-/
import Derived.Test.YthkggmmalffcdaaGreatDoorSFG
import Derived.Test.YthkggmmalffcdaaGreatDoorSFC
import Derived.Test.YthkggmmalffcdaaGreatDoorShelf
import Derived.Lib.ItoaMem
import Derived.WalkSmall
import Derived.Test.YthkggmmalffcdaaGreatDoorSFI
import Derived.Test.YthkggmmalffcdaaGreatDoorSFB
import Derived.Test.YthkggmmalffcdaaGreatDoorSFP
namespace Go.Proofs.YthkggmmalffcdaaGreatDoor
open Go.RowKit

theorem zbelow_grow (w : World) (k : Nat) (os : Array Obj) : Below w.heap.size w (Sort.grow (w.drewN k) os) :=
  ⟨rfl, rfl, rfl, by simp [Sort.grow, World.drewN], fun i hi => by simp [Sort.grow, World.drewN, Array.getElem?_append_left hi]⟩
theorem zret_str2 {a b : ByteArray} {i j : Int} (h : a = b) (h' : i = j) : Ending.returned (.tuple #[.string a, .int .i64 i]) = .returned (.tuple #[.string b, .int .i64 j]) := by rw [h, h']
theorem zbelow_next {w w1 w2 : World} (h : Below w.heap.size w w1) (h' : Below w1.heap.size w1 w2) : Below w.heap.size w w2 := h.trans (h'.mono h.size)
theorem zcat_dot (d m : List UInt8) : (ByteArray.mk d.toArray) ++ (ByteArray.mk #[46]) ++ (ByteArray.mk m.toArray) = ⟨(d ++ 46 :: m).toArray⟩ := by
  apply ByteArray.ext
  simp [ByteArray.data_append]
theorem zgPow : Tryz.prog.globalNamed "internal/strconv.uint64pow10" = some 1 := by kernel_rfl
theorem ztab_lt {w : World} (htab : Lib.TabIs Tryz.prog w "internal/strconv.uint64pow10" .u64 Lib.pow10Tab) : 1 < w.heap.size := by
  have hc := htab.cell zgPow 0 (by decide)
  unfold World.cell? at hc
  cases ho : w.heap[1]? with
  | none => simp [ho] at hc
  | some o => exact (Array.getElem?_eq_some_iff.1 ho).1
theorem ztab_kept {w w' : World} (htab : Lib.TabIs Tryz.prog w "internal/strconv.uint64pow10" .u64 Lib.pow10Tab) (hb : Below w.heap.size w w') : Lib.TabIs Tryz.prog w' "internal/strconv.uint64pow10" .u64 Lib.pow10Tab :=
  var?_below hb zgPow (ztab_lt htab) htab

set_option maxRecDepth 10000 in
set_option maxHeartbeats 400000 in
theorem ztext_any (z : Int) (w : World) (htab : Lib.TabIs Tryz.prog w "internal/strconv.uint64pow10" .u64 Lib.pow10Tab) :
    Calls Tryz.prog 69 #[.int .i64 z] w fun e w' => e = .returned (.tuple #[.string ⟨(zText z).toArray⟩, .int .i64 (zTextE z)]) ∧ Below w.heap.size w w' := by
  cases hg : zGood z
  · have H := hide (zText_no hg)
    have Hg := hide hg
    clear hg htab
    go_enter Tryz.func69, Tryz.ntmps69
    go_wp2_with fail
    refine (zgood_any z _).mono ?_
    rintro e w1 ⟨rfl, rfl⟩
    rw [unhide Hg]
    go_wp2_with fail
    go_ret2
    exact ⟨zret_str2 (by rw [(unhide H).1]) (unhide H).2.symm, Below.refl _ _⟩
  have hz := zGood_iff.1 hg
  have H := hide (zText_yes hg)
  have Hg := hide hg
  have q0 : (z / 2147483648) = ((z / 2147483648).toNat : Int) := by omega
  have r0 : (z % 2147483648) = ((z % 2147483648).toNat : Int) := by omega
  obtain ⟨q, hq⟩ : ∃ q, (z / 2147483648).toNat = q := ⟨_, rfl⟩
  obtain ⟨r, hr⟩ : ∃ r, (z % 2147483648).toNat = r := ⟨_, rfl⟩
  have q1 : q < 2147483648 := by omega
  have r1 : r < 2147483648 := by omega
  rw [hq] at q0
  rw [hr] at r0
  rw [hq, hr] at H
  have Ez : Hid (zEpoch z = (q : Int)) := hide (by rw [zEpoch_yes hg]; exact q0)
  have Cz : Hid (zCount z = (r : Int)) := hide (by rw [zCount_yes hg]; exact r0)
  have Htab := hide htab
  have Hiq := hide (Lib.itoa_nonneg q)
  have Hir := hide (Lib.itoa_nonneg r)
  have lq := dec_len 9 q (by omega)
  have lr := dec_len 9 r (by omega)
  clear hg hz q0 r0 hq hr htab
  go_enter Tryz.func69, Tryz.ntmps69
  go_wp2_with fail
  refine (zgood_any z _).mono ?_
  rintro e w1 ⟨rfl, rfl⟩
  rw [unhide Hg]
  go_wp2_with fail
  refine (zepoch_any z _).mono ?_
  rintro e w2 ⟨rfl, rfl⟩
  rw [unhide Ez]
  go_wp2_with fail
  refine (Tryz.strconv_Itoa _ (by omega) (by omega) _ (unhide Htab)).mono ?_
  rintro e w3 ⟨rfl, k, os, hw3⟩
  have hb3 : Below w2.heap.size w2 w3 := by rw [hw3]; exact zbelow_grow w2 k os
  clear hw3
  rw [unhide Hiq]
  obtain ⟨D, hD⟩ : ∃ D, Lib.decDigits q = D := ⟨_, rfl⟩
  rw [hD] at lq H ⊢
  clear hD
  go_wp2_with fail
  refine (zcount_any z _).mono ?_
  rintro e w4 ⟨rfl, rfl⟩
  rw [unhide Cz]
  go_wp2_with fail
  refine (Tryz.strconv_Itoa _ (by omega) (by omega) _ (ztab_kept (unhide Htab) hb3)).mono ?_
  rintro e w5 ⟨rfl, k, os, hw5⟩
  have hb5 : Below w2.heap.size w2 w5 := zbelow_next hb3 (by rw [hw5]; exact zbelow_grow w4 k os)
  clear hw5
  rw [unhide Hir]
  obtain ⟨R, hR⟩ : ∃ R, Lib.decDigits r = R := ⟨_, rfl⟩
  rw [hR] at lr H ⊢
  clear hR Hiq Hir Ez Cz Hg hb3
  have zD : (ByteArray.mk D.toArray).size = D.length := Lib.size_eq ⟨D.toArray⟩
  have zR : (ByteArray.mk R.toArray).size = R.length := Lib.size_eq ⟨R.toArray⟩
  go_wp2_with fail
  go_ret2
  exact ⟨zret_str2 (by rw [(unhide H).1]; exact zcat_dot D R) (unhide H).2.symm, hb5⟩

end Go.Proofs.YthkggmmalffcdaaGreatDoor

namespace Go.Proofs.YthkggmmalffcdaaGreatDoor
open Go.RowKit

theorem tdq {z : Int} (h0 : 0 ≤ z) (hm : z ≤ 9223372036854775807) : wrap64 (z.tdiv 2147483648) = z / 2147483648 := by
  rw [Int.tdiv_eq_ediv_of_nonneg h0]; unfold wrap64; omega
set_option maxRecDepth 10000 in
set_option maxHeartbeats 400000 in
theorem rgood_any (z : Int) (hm : z ≤ 9223372036854775807) (w : World) : Calls Tryz.prog 101 #[.int .i64 z] w fun e w' => e = .returned (.bool (zGood z)) ∧ w' = w := by
  by_cases h0 : 0 ≤ z
  · by_cases h1 : z < 4611686018427387904
    · have H := hide (zGood_iff.2 ⟨h0, h1⟩)
      have h2 : decide (z / 2147483648 < 2147483648) = true := decide_eq_true (by omega)
      go_enter Tryz.func101, Tryz.ntmps101
      go_wp2_with fail
      go_ret
      exact ⟨zret_bool (Eq.trans (by first | rfl | exact h2 | (rw [tdq h0 hm]; exact h2)) (unhide H).symm), rfl⟩
    · have H := hide (zGood_no (z := z) (by omega))
      have h2 : decide (z / 2147483648 < 2147483648) = false := decide_eq_false (by omega)
      go_enter Tryz.func101, Tryz.ntmps101
      go_wp2_with fail
      go_ret
      exact ⟨zret_bool (Eq.trans (by first | rfl | exact h2 | (rw [tdq h0 hm]; exact h2)) (unhide H).symm), rfl⟩
  · have H := hide (zGood_no (z := z) (by omega))
    go_enter Tryz.func101, Tryz.ntmps101
    go_wp2_with fail
    go_ret
    exact ⟨zret_bool (by rw [unhide H]), rfl⟩

end Go.Proofs.YthkggmmalffcdaaGreatDoor

namespace Go.Proofs.YthkggmmalffcdaaGreatDoor
open Go.RowKit
set_option maxRecDepth 10000 in

set_option maxHeartbeats 400000 in
theorem rmake_any (e c : Int) (w : World) :
    Calls Tryz.prog 78 #[.int .i64 e, .int .i64 c] w fun x w' => x = .returned (.tuple #[.int .i64 (zMake e c), .int .i64 (zMakeE e c)]) ∧ w' = w := by
  by_cases h1 : e < 0
  · have H := hide (zMake_no (e := e) (c := c) (.inl (zIn_no (by omega))))
    go_enter Tryz.func78, Tryz.ntmps78
    go_wp2_with fail
    go_ret2
    exact ⟨ret_int2 (unhide H).1.symm (unhide H).2.symm, rfl⟩
  by_cases h2 : 2147483648 ≤ e
  · have H := hide (zMake_no (e := e) (c := c) (.inl (zIn_no (by omega))))
    go_enter Tryz.func78, Tryz.ntmps78
    go_wp2_with fail
    go_ret2
    exact ⟨ret_int2 (unhide H).1.symm (unhide H).2.symm, rfl⟩
  by_cases h3 : c < 0
  · have H := hide (zMake_no (e := e) (c := c) (.inr (zIn_no (by omega))))
    go_enter Tryz.func78, Tryz.ntmps78
    go_wp2_with fail
    go_ret2
    exact ⟨ret_int2 (unhide H).1.symm (unhide H).2.symm, rfl⟩
  by_cases h4 : 2147483648 ≤ c
  · have H := hide (zMake_no (e := e) (c := c) (.inr (zIn_no (by omega))))
    go_enter Tryz.func78, Tryz.ntmps78
    go_wp2_with fail
    go_ret2
    exact ⟨ret_int2 (unhide H).1.symm (unhide H).2.symm, rfl⟩
  have H := hide (zMake_yes (e := e) (c := c) (zIn_iff.2 (by omega)) (zIn_iff.2 (by omega)))
  go_enter Tryz.func78, Tryz.ntmps78
  go_wp2_with fail
  go_ret2
  exact ⟨ret_int2 (unhide H).1.symm (unhide H).2.symm, rfl⟩

end Go.Proofs.YthkggmmalffcdaaGreatDoor

namespace Go.Proofs.YthkggmmalffcdaaGreatDoor
open Go.RowKit

theorem zret_str {a b : ByteArray} (h : a = b) : Ending.returned (.string a) = .returned (.string b) := by rw [h]
theorem zcat_one (a b : List UInt8) : (ByteArray.mk a.toArray) ++ (ByteArray.mk b.toArray) = ⟨(a ++ b).toArray⟩ := by
  apply ByteArray.ext
  simp [ByteArray.data_append]
theorem zdigit_string (w : World) (u : Nat) : (convert 176 9 (.slice (some ⟨w.heap.size, 0, none⟩) 1 1)).run Tryz.prog (w.alloc (.cells #[.int .u8 (48 + (u : Int) % 10)] 5)) = .ok (.string ⟨#[UInt8.ofNat (48 + u % 10)]⟩) (w.alloc (.cells #[.int .u8 (48 + (u : Int) % 10)] 5)) :=
  run_convert_bytes_back _ 176 9 5 ⟨w.heap.size, 0, none⟩ 1 [UInt8.ofNat (48 + u % 10)] Tryz.underlying176 Tryz.underlying5 Tryz.underlying9 (fun j hj => by
    obtain rfl : j = 0 := by simpa using hj
    have h : ((UInt8.ofNat (48 + u % 10)).toNat : Int) = 48 + (u : Int) % 10 := by
      rw [UInt8.toNat_ofNat']; omega
    show _ = some (Value.int .u8 ((UInt8.ofNat (48 + u % 10)).toNat : Int))
    rw [h]
    simp [Addr.add])

set_option maxRecDepth 10000 in
set_option maxHeartbeats 1000000 in
theorem zdecimal_any (u : Nat) : u < 1000000000000 → ∀ w : World,
    Calls Tryz.prog 129 #[.int .i64 u] w fun e w' => e = .returned (.string ⟨(Lib.decDigits u).toArray⟩) ∧ Below w.heap.size w w' := by
  induction u using Nat.strongRecOn with
  | _ u ih =>
    intro hu w
    have hds := zdigit_string w u
    by_cases h10 : u < 10
    · have Hd : Hid (Lib.decDigits u = [UInt8.ofNat (48 + u % 10)]) := hide (by rw [decs h10, Nat.mod_eq_of_lt h10])
      clear ih
      generalize UInt8.ofNat (48 + u % 10) = c at hds Hd
      go_enter Tryz.func129, Tryz.ntmps129
      go_wp2_with fail
      go_ret
      exact ⟨zret_str (by rw [unhide Hd]), (Below.refl _ _).alloc (Nat.le_refl _) _⟩
    · have Hd := hide (decb h10)
      have hrec := ih (u / 10) (by omega) (by omega)
      have hlen := dec_len 11 (u / 10) (by omega)
      have Hrec := hide hrec
      clear hrec ih
      generalize UInt8.ofNat (48 + u % 10) = c at hds Hd
      go_enter Tryz.func129, Tryz.ntmps129
      go_wp2_with fail
      rw [show ((u : Int) / 10) = ((u / 10 : Nat) : Int) from by omega]
      refine (unhide Hrec _).mono ?_
      rintro e w1 ⟨rfl, hb1⟩
      clear Hrec
      generalize Lib.decDigits (u / 10) = D at *
      have hz : (ByteArray.mk D.toArray).size = D.length := Lib.size_eq ⟨D.toArray⟩
      go_wp2_with fail
      go_ret
      exact ⟨zret_str (by rw [unhide Hd]; exact zcat_one D [c]), ((Below.refl _ w).alloc (Nat.le_refl _) _).trans (hb1.mono (by simp))⟩

end Go.Proofs.YthkggmmalffcdaaGreatDoor

namespace Go.Proofs.YthkggmmalffcdaaGreatDoor
open Go.RowKit
set_option maxRecDepth 10000 in

set_option maxHeartbeats 1000000 in
theorem rtext_any (z : Int) (hm : z ≤ 9223372036854775807) (w : World) :
    Calls Tryz.prog 79 #[.int .i64 z] w fun e w' => e = .returned (.tuple #[.string ⟨(zText z).toArray⟩, .int .i64 (zTextE z)]) ∧ Below w.heap.size w w' := by
  cases hg : zGood z
  · have H := hide (zText_no hg)
    have Hg := hide hg
    clear hg
    go_enter Tryz.func79, Tryz.ntmps79
    go_wp2_with fail
    refine (rgood_any z hm _).mono ?_
    rintro e w1 ⟨rfl, rfl⟩
    rw [unhide Hg]
    go_wp2_with fail
    go_ret2
    exact ⟨zret_str2 (by rw [(unhide H).1]) (unhide H).2.symm, Below.refl _ _⟩
  have hz := zGood_iff.1 hg
  have h0 := hz.1
  have H := hide (zText_yes hg)
  have Hg := hide hg
  have q0 : (z / 2147483648) = ((z / 2147483648).toNat : Int) := by omega
  have r0 : (z % 2147483648) = ((z % 2147483648).toNat : Int) := by omega
  obtain ⟨q, hq⟩ : ∃ q, (z / 2147483648).toNat = q := ⟨_, rfl⟩
  obtain ⟨r, hr⟩ : ∃ r, (z % 2147483648).toNat = r := ⟨_, rfl⟩
  have q1 : q < 2147483648 := by omega
  have r1 : r < 2147483648 := by omega
  rw [hq] at q0
  rw [hr] at r0
  rw [hq, hr] at H
  have Q0 := hide q0
  have R0 := hide r0
  have lq := dec_len 9 q (by omega)
  have lr := dec_len 9 r (by omega)
  clear hg hz q0 r0 hq hr
  go_enter Tryz.func79, Tryz.ntmps79
  go_wp2_with fail
  refine (rgood_any z hm _).mono ?_
  rintro e w1 ⟨rfl, rfl⟩
  rw [unhide Hg]
  go_wp2_with fail
  rw [show z / 2147483648 = (q : Int) from unhide Q0]
  refine (zdecimal_any q (by omega) _).mono ?_
  rintro e w2 ⟨rfl, hb2⟩
  obtain ⟨D, hD⟩ : ∃ D, Lib.decDigits q = D := ⟨_, rfl⟩
  rw [hD] at lq H ⊢
  clear hD
  go_wp2_with fail
  rw [show z % 2147483648 = (r : Int) from unhide R0]
  refine (zdecimal_any r (by omega) _).mono ?_
  rintro e w3 ⟨rfl, hb3⟩
  replace hb3 := zbelow_next hb2 hb3
  obtain ⟨R, hR⟩ : ∃ R, Lib.decDigits r = R := ⟨_, rfl⟩
  rw [hR] at lr H ⊢
  clear hR hb2
  have zD : (ByteArray.mk D.toArray).size = D.length := Lib.size_eq ⟨D.toArray⟩
  have zR : (ByteArray.mk R.toArray).size = R.length := Lib.size_eq ⟨R.toArray⟩
  go_wp2_with fail
  go_ret2
  exact ⟨zret_str2 (by rw [(unhide H).1]; exact zcat_dot D R) (unhide H).2.symm, hb3⟩

end Go.Proofs.YthkggmmalffcdaaGreatDoor

namespace Go.Proofs.YthkggmmalffcdaaGreatDoor
open Go.RowKit

/-- the table that numbers are written by lies as Go's library lays it -/
def TabP (W : World) : Prop := Lib.TabIs Tryz.prog W "internal/strconv.uint64pow10" .u64 Lib.pow10Tab
theorem TabP.next {w w' : World} (h : TabP w) (hb : Below w.heap.size w w') : TabP w' := ztab_kept h hb
/-- a call on a disk says E, and hands back a disk, where that table lies -/
def GivesE (f : FuncId) (args : Value → Array Value) (fs d : List DF) (E : Int) : Prop := ∀ v W, TabP W → DiskV W v fs → Calls Tryz.prog f (args (.agg #[v])) W fun e w' => ∃ a n c, e = .returned (.tuple #[.agg #[.slice a n c], .int .i64 E]) ∧ Hid (DiskV w' (.slice a n c) d) ∧ Below W.heap.size W w'
theorem zMake_top (e : Int) : zMake e 0 ≤ 9223372036854775807 := by
  unfold zMake
  split
  · rename_i h
    have := zIn_iff.1 (show zIn e = true by simp at h; exact h.1)
    omega
  · omega

set_option maxRecDepth 10000 in
set_option maxHeartbeats 2000000 in
theorem srem_no (fs : List DF) (ep : Int) (hM : zMakeE ep 0 ≠ 0) : GivesE 30 (fun x => #[x, .int .i64 ep]) fs [] (zMakeE ep 0) := by
  intro v w _ hv
  have CM := fun W => zmake_any ep 0 W
  have hne : (zMakeE ep 0 != 0) = true := by simpa using hM
  generalize zMakeE ep 0 = E at *
  generalize zMake ep 0 = z at *
  obtain ⟨a, n, c, rfl⟩ := disk_slice hv
  clear hv hM
  go_enter Tryz.func30, Tryz.ntmps30
  go_wp2_with fail
  have X := RBox.start w (.slice a n c)
  generalize (w.alloc (.cells #[.slice a n c] 24)).alloc (.cells #[.slice none 0 0] 24) = W0 at *
  have cr := X.r.c
  have fr := X.r.f
  have HB := hide (X.below.setCell (p := ⟨w.heap.size + 1, 0, none⟩) (by show w.heap.size ≤ w.heap.size + 1; omega) (.slice none 0 0))
  clear X
  refine (CM _).mono ?_
  rintro e w1 ⟨rfl, rfl⟩
  clear CM
  go_wp2_with fail
  exact bodyPost_ret (v := .tuple #[.agg #[.slice none 0 0], .int .i64 E]) (by simp [results, Tryz.results30, go_sem, cr]) rfl ⟨_, _, _, rfl, hide (DiskV.nil _), unhide HB⟩

set_option maxRecDepth 10000 in
set_option maxHeartbeats 2000000 in
theorem srem_yes_err (fs d1 d2 : List DF) (ep E2 : Int) (hM : zMakeE ep 0 = 0) (h2 : E2 ≠ 0) (R1 : GivesD 70 (fun x => #[x, .string ⟨epochN.toArray⟩]) fs d1 0) (W1 : GivesD 71 (fun x => #[x, .string ⟨epochN.toArray⟩, .string ⟨(zText (zMake ep 0)).toArray⟩]) d1 d2 E2) : GivesE 30 (fun x => #[x, .int .i64 ep]) fs [] E2 := by
  intro v w ht hv
  have CM := fun W => zmake_any ep 0 W
  rw [hM] at CM
  have CT := fun W (h : Below w.heap.size w W) => ztext_any (zMake ep 0) W (ht.next h)
  have h2' : (E2 != 0) = true := by simpa using h2
  simp only [show epochN.toArray = #[101, 112, 111, 99, 104] from rfl] at R1 W1
  generalize zTextE (zMake ep 0) = te at *
  generalize zText (zMake ep 0) = T at *
  generalize zMake ep 0 = z at *
  have HV := hide hv
  have HR := hide R1
  have HW := hide W1
  obtain ⟨a, n, c, rfl⟩ := disk_slice hv
  clear hv hM R1 W1 h2 ht
  go_enter Tryz.func30, Tryz.ntmps30
  go_wp2_with fail
  have X := RBox.start w (.slice a n c)
  generalize (w.alloc (.cells #[.slice a n c] 24)).alloc (.cells #[.slice none 0 0] 24) = W0 at *
  have HX := hide X
  clear X
  refine (CM _).mono ?_
  rintro e w1 ⟨rfl, rfl⟩
  clear CM
  go_wp2_with fail
  refine (CT _ (unhide HX).below).mono ?_
  rintro e w2 ⟨rfl, hb2⟩
  have X2 := (unhide HX).next hb2
  have cd := X2.d.c
  have HX2 := hide X2
  clear hb2 X2 HX CT
  go_wp2_with fail
  refine (unhide HR _ _ ((unhide HV).next (unhide HX2).below)).mono ?_
  rintro e w3 ⟨a3, n3, c3, rfl, HD3, hb3⟩
  have X3 := (unhide HX2).next hb3
  have cd3 := X3.d.c
  have fd3 := X3.d.f
  have hk3 := X3.d.lt
  have hnk : w.heap.size ≠ w3.heap.size := by omega
  have X4 := (X3.setd (.slice a3 n3 c3)).next (allocB _ (.cells #[.slice a3 n3 c3] 24))
  have D4 := (disk_box (unhide HD3) X3.d (.slice a3 n3 c3)).alloc (.cells #[.slice a3 n3 c3] 24)
  have cd4 := X4.d.c
  have HX4 := hide X4
  have HD4 := hide D4
  clear hb3 X3 X4 D4 HD3 HX2 HR cd HV
  go_wp2_with fail
  generalize (w3.setCell ⟨w.heap.size, 0, none⟩ (.slice a3 n3 c3)).alloc (.cells #[.slice a3 n3 c3] 24) = W4 at *
  clear cd3 fd3 hk3 hnk
  refine (unhide HW _ _ (unhide HD4)).mono ?_
  rintro e w5 ⟨a5, n5, c5, rfl, HD5, hb5⟩
  have X5 := (unhide HX4).next hb5
  have hz5 := X5.r.lt
  have hnz : w.heap.size + 1 ≠ w5.heap.size := by omega
  have hS := X5.below.setCell (p := ⟨w.heap.size + 1, 0, none⟩) (by show w.heap.size ≤ w.heap.size + 1; omega) (.slice none 0 0)
  have HF := hide (hS.alloc (by have := hS.size; exact this) (.cells #[.slice a5 n5 c5] 24))
  have cr6 := (X5.r.next (allocB _ (.cells #[.slice a5 n5 c5] 24))).c
  have fr6 := (X5.r.next (allocB _ (.cells #[.slice a5 n5 c5] 24))).f
  have HCw := hide ((X5.r.set (.slice none 0 0)).next (allocB _ (.cells #[.slice a5 n5 c5] 24))).c
  clear hb5 X5 HX4 HD4 HD5 HW cd4 hS
  go_wp2_with fail
  exact bodyPost_ret (v := .tuple #[.agg #[.slice none 0 0], .int .i64 E2]) (by simp [results, Tryz.results30, go_sem, unhide HCw]) rfl ⟨_, _, _, rfl, hide (DiskV.nil _), unhide HF⟩

set_option maxRecDepth 10000 in
set_option maxHeartbeats 2000000 in
theorem srem_yes_ok (fs d1 d2 d3 : List DF) (ep E3 : Int) (hM : zMakeE ep 0 = 0) (R1 : GivesD 70 (fun x => #[x, .string ⟨epochN.toArray⟩]) fs d1 0) (W1 : GivesD 71 (fun x => #[x, .string ⟨epochN.toArray⟩, .string ⟨(zText (zMake ep 0)).toArray⟩]) d1 d2 0) (S1 : GivesD 72 (fun x => #[x, .string ⟨epochN.toArray⟩]) d2 d3 E3) : GivesE 30 (fun x => #[x, .int .i64 ep]) fs d3 E3 := by
  intro v w ht hv
  have CM := fun W => zmake_any ep 0 W
  rw [hM] at CM
  have CT := fun W (h : Below w.heap.size w W) => ztext_any (zMake ep 0) W (ht.next h)
  simp only [show epochN.toArray = #[101, 112, 111, 99, 104] from rfl] at R1 W1 S1
  generalize zTextE (zMake ep 0) = te at *
  generalize zText (zMake ep 0) = T at *
  generalize zMake ep 0 = z at *
  have HV := hide hv
  have HR := hide R1
  have HW := hide W1
  have HS := hide S1
  obtain ⟨a, n, c, rfl⟩ := disk_slice hv
  clear hv hM R1 W1 S1 ht
  go_enter Tryz.func30, Tryz.ntmps30
  go_wp2_with fail
  have X := RBox.start w (.slice a n c)
  generalize (w.alloc (.cells #[.slice a n c] 24)).alloc (.cells #[.slice none 0 0] 24) = W0 at *
  have HX := hide X
  clear X
  refine (CM _).mono ?_
  rintro e w1 ⟨rfl, rfl⟩
  clear CM
  go_wp2_with fail
  refine (CT _ (unhide HX).below).mono ?_
  rintro e w2 ⟨rfl, hb2⟩
  have X2 := (unhide HX).next hb2
  have cd := X2.d.c
  have HX2 := hide X2
  clear hb2 X2 HX CT
  go_wp2_with fail
  refine (unhide HR _ _ ((unhide HV).next (unhide HX2).below)).mono ?_
  rintro e w3 ⟨a3, n3, c3, rfl, HD3, hb3⟩
  have X3 := (unhide HX2).next hb3
  have cd3 := X3.d.c
  have fd3 := X3.d.f
  have hk3 := X3.d.lt
  have hnk : w.heap.size ≠ w3.heap.size := by omega
  have X4 := (X3.setd (.slice a3 n3 c3)).next (allocB _ (.cells #[.slice a3 n3 c3] 24))
  have D4 := (disk_box (unhide HD3) X3.d (.slice a3 n3 c3)).alloc (.cells #[.slice a3 n3 c3] 24)
  have cd4 := X4.d.c
  have HX4 := hide X4
  have HD4 := hide D4
  clear hb3 X3 X4 D4 HD3 HX2 HR cd HV
  go_wp2_with fail
  generalize (w3.setCell ⟨w.heap.size, 0, none⟩ (.slice a3 n3 c3)).alloc (.cells #[.slice a3 n3 c3] 24) = W4 at *
  clear cd3 fd3 hk3 hnk
  refine (unhide HW _ _ (unhide HD4)).mono ?_
  rintro e w5 ⟨a5, n5, c5, rfl, HD5, hb5⟩
  have X5 := (unhide HX4).next hb5
  have X6 := X5.next (allocB _ (.cells #[.slice a5 n5 c5] 24))
  have D6 := (unhide HD5).alloc (.cells #[.slice a5 n5 c5] 24)
  have HX6 := hide X6
  have HD6 := hide D6
  clear hb5 X5 X6 D6 HD5 HX4 HD4 HW cd4
  go_wp2_with fail
  refine (unhide HS _ _ (unhide HD6)).mono ?_
  rintro e w7 ⟨a7, n7, c7, rfl, HD7, hb7⟩
  have X7 := (unhide HX6).next hb7
  have cr7 := X7.r.c
  have fr7 := X7.r.f
  have HF := hide (And.intro (X7.below.setCell (p := ⟨w.heap.size + 1, 0, none⟩) (by show w.heap.size ≤ w.heap.size + 1; omega) (.slice a7 n7 c7)) (disk_box (unhide HD7) X7.r (.slice a7 n7 c7)))
  clear hb7 X7 HX6 HD6 HD7 HS
  go_wp2_with fail
  exact bodyPost_ret (v := .tuple #[.agg #[.slice a7 n7 c7], .int .i64 E3]) (by simp [results, Tryz.results30, go_sem, cr7]) rfl ⟨_, _, _, rfl, hide (unhide HF).2, (unhide HF).1⟩

set_option maxRecDepth 10000 in
set_option maxHeartbeats 2000000 in
theorem srem_not_err (fs d1 d2 : List DF) (ep E1 E2 : Int) (hM : zMakeE ep 0 = 0) (h1 : E1 ≠ 0) (h2 : E2 ≠ 0) (R1 : GivesD 70 (fun x => #[x, .string ⟨epochN.toArray⟩]) fs d1 E1) (W1 : GivesD 71 (fun x => #[x, .string ⟨epochN.toArray⟩, .string ⟨(zText (zMake ep 0)).toArray⟩]) fs d2 E2) : GivesE 30 (fun x => #[x, .int .i64 ep]) fs [] E2 := by
  intro v w ht hv
  have CM := fun W => zmake_any ep 0 W
  rw [hM] at CM
  have CT := fun W (h : Below w.heap.size w W) => ztext_any (zMake ep 0) W (ht.next h)
  have h1' : (E1 == 0) = false := by simpa using h1
  have h2' : (E2 != 0) = true := by simpa using h2
  simp only [show epochN.toArray = #[101, 112, 111, 99, 104] from rfl] at R1 W1
  generalize zTextE (zMake ep 0) = te at *
  generalize zText (zMake ep 0) = T at *
  generalize zMake ep 0 = z at *
  have HV := hide hv
  have HR := hide R1
  have HW := hide W1
  obtain ⟨a, n, c, rfl⟩ := disk_slice hv
  clear hv hM R1 W1 h2 h1 ht
  go_enter Tryz.func30, Tryz.ntmps30
  go_wp2_with fail
  have X := RBox.start w (.slice a n c)
  generalize (w.alloc (.cells #[.slice a n c] 24)).alloc (.cells #[.slice none 0 0] 24) = W0 at *
  have HX := hide X
  clear X
  refine (CM _).mono ?_
  rintro e w1 ⟨rfl, rfl⟩
  clear CM
  go_wp2_with fail
  refine (CT _ (unhide HX).below).mono ?_
  rintro e w2 ⟨rfl, hb2⟩
  have X2 := (unhide HX).next hb2
  have cd := X2.d.c
  have HX2 := hide X2
  clear hb2 X2 HX CT
  go_wp2_with fail
  refine (unhide HR _ _ ((unhide HV).next (unhide HX2).below)).mono ?_
  rintro e w3 ⟨a3, n3, c3, rfl, HD3, hb3⟩
  have X3 := (unhide HX2).next hb3
  have cd3 := X3.d.c
  have fd3 := X3.d.f
  have hk3 := X3.d.lt
  have X4 := X3.next (allocB _ (.cells #[.slice a3 n3 c3] 24))
  have D4 := (unhide HV).next X4.below
  have cd4 := X4.d.c
  have HX4 := hide X4
  have HD4 := hide D4
  clear hb3 X3 X4 D4 HD3 HX2 HR cd cd3 fd3 hk3 HV
  go_wp2_with fail
  generalize w3.alloc (.cells #[.slice a3 n3 c3] 24) = W4 at *
  refine (unhide HW _ _ (unhide HD4)).mono ?_
  rintro e w5 ⟨a5, n5, c5, rfl, HD5, hb5⟩
  have X5 := (unhide HX4).next hb5
  have hz5 := X5.r.lt
  have hnz : w.heap.size + 1 ≠ w5.heap.size := by omega
  have hS := X5.below.setCell (p := ⟨w.heap.size + 1, 0, none⟩) (by show w.heap.size ≤ w.heap.size + 1; omega) (.slice none 0 0)
  have HF := hide (hS.alloc (by have := hS.size; exact this) (.cells #[.slice a5 n5 c5] 24))
  have cr6 := (X5.r.next (allocB _ (.cells #[.slice a5 n5 c5] 24))).c
  have fr6 := (X5.r.next (allocB _ (.cells #[.slice a5 n5 c5] 24))).f
  have HCw := hide ((X5.r.set (.slice none 0 0)).next (allocB _ (.cells #[.slice a5 n5 c5] 24))).c
  clear hb5 X5 HX4 HD4 HD5 HW cd4 hS
  go_wp2_with fail
  exact bodyPost_ret (v := .tuple #[.agg #[.slice none 0 0], .int .i64 E2]) (by simp [results, Tryz.results30, go_sem, unhide HCw]) rfl ⟨_, _, _, rfl, hide (DiskV.nil _), unhide HF⟩

set_option maxRecDepth 10000 in
set_option maxHeartbeats 2000000 in
theorem srem_not_ok (fs d1 d2 d3 : List DF) (ep E1 E3 : Int) (hM : zMakeE ep 0 = 0) (h1 : E1 ≠ 0) (R1 : GivesD 70 (fun x => #[x, .string ⟨epochN.toArray⟩]) fs d1 E1) (W1 : GivesD 71 (fun x => #[x, .string ⟨epochN.toArray⟩, .string ⟨(zText (zMake ep 0)).toArray⟩]) fs d2 0) (S1 : GivesD 72 (fun x => #[x, .string ⟨epochN.toArray⟩]) d2 d3 E3) : GivesE 30 (fun x => #[x, .int .i64 ep]) fs d3 E3 := by
  intro v w ht hv
  have CM := fun W => zmake_any ep 0 W
  rw [hM] at CM
  have CT := fun W (h : Below w.heap.size w W) => ztext_any (zMake ep 0) W (ht.next h)
  have h1' : (E1 == 0) = false := by simpa using h1
  simp only [show epochN.toArray = #[101, 112, 111, 99, 104] from rfl] at R1 W1 S1
  generalize zTextE (zMake ep 0) = te at *
  generalize zText (zMake ep 0) = T at *
  generalize zMake ep 0 = z at *
  have HV := hide hv
  have HR := hide R1
  have HW := hide W1
  have HS := hide S1
  obtain ⟨a, n, c, rfl⟩ := disk_slice hv
  clear hv hM R1 W1 S1 h1 ht
  go_enter Tryz.func30, Tryz.ntmps30
  go_wp2_with fail
  have X := RBox.start w (.slice a n c)
  generalize (w.alloc (.cells #[.slice a n c] 24)).alloc (.cells #[.slice none 0 0] 24) = W0 at *
  have HX := hide X
  clear X
  refine (CM _).mono ?_
  rintro e w1 ⟨rfl, rfl⟩
  clear CM
  go_wp2_with fail
  refine (CT _ (unhide HX).below).mono ?_
  rintro e w2 ⟨rfl, hb2⟩
  have X2 := (unhide HX).next hb2
  have cd := X2.d.c
  have HX2 := hide X2
  clear hb2 X2 HX CT
  go_wp2_with fail
  refine (unhide HR _ _ ((unhide HV).next (unhide HX2).below)).mono ?_
  rintro e w3 ⟨a3, n3, c3, rfl, HD3, hb3⟩
  have X3 := (unhide HX2).next hb3
  have cd3 := X3.d.c
  have fd3 := X3.d.f
  have hk3 := X3.d.lt
  have X4 := X3.next (allocB _ (.cells #[.slice a3 n3 c3] 24))
  have D4 := (unhide HV).next X4.below
  have cd4 := X4.d.c
  have HX4 := hide X4
  have HD4 := hide D4
  clear hb3 X3 X4 D4 HD3 HX2 HR cd cd3 fd3 hk3 HV
  go_wp2_with fail
  generalize w3.alloc (.cells #[.slice a3 n3 c3] 24) = W4 at *
  refine (unhide HW _ _ (unhide HD4)).mono ?_
  rintro e w5 ⟨a5, n5, c5, rfl, HD5, hb5⟩
  have X5 := (unhide HX4).next hb5
  have X6 := X5.next (allocB _ (.cells #[.slice a5 n5 c5] 24))
  have D6 := (unhide HD5).alloc (.cells #[.slice a5 n5 c5] 24)
  have HX6 := hide X6
  have HD6 := hide D6
  clear hb5 X5 X6 D6 HD5 HX4 HD4 HW cd4
  go_wp2_with fail
  refine (unhide HS _ _ (unhide HD6)).mono ?_
  rintro e w7 ⟨a7, n7, c7, rfl, HD7, hb7⟩
  have X7 := (unhide HX6).next hb7
  have cr7 := X7.r.c
  have fr7 := X7.r.f
  have HF := hide (And.intro (X7.below.setCell (p := ⟨w.heap.size + 1, 0, none⟩) (by show w.heap.size ≤ w.heap.size + 1; omega) (.slice a7 n7 c7)) (disk_box (unhide HD7) X7.r (.slice a7 n7 c7)))
  clear hb7 X7 HX6 HD6 HD7 HS
  go_wp2_with fail
  exact bodyPost_ret (v := .tuple #[.agg #[.slice a7 n7 c7], .int .i64 E3]) (by simp [results, Tryz.results30, go_sem, cr7]) rfl ⟨_, _, _, rfl, hide (unhide HF).2, (unhide HF).1⟩

set_option maxRecDepth 10000 in
set_option maxHeartbeats 2000000 in
theorem rrem_no (fs : List DF) (ep : Int) (hM : zMakeE ep 0 ≠ 0) : GivesE 34 (fun x => #[x, .int .i64 ep]) fs [] (zMakeE ep 0) := by
  intro v w _ hv
  have CM := fun W => rmake_any ep 0 W
  have hne : (zMakeE ep 0 != 0) = true := by simpa using hM
  generalize zMakeE ep 0 = E at *
  generalize zMake ep 0 = z at *
  obtain ⟨a, n, c, rfl⟩ := disk_slice hv
  clear hv hM
  go_enter Tryz.func34, Tryz.ntmps34
  go_wp2_with fail
  have X := RBox.start w (.slice a n c)
  generalize (w.alloc (.cells #[.slice a n c] 24)).alloc (.cells #[.slice none 0 0] 24) = W0 at *
  have cr := X.r.c
  have fr := X.r.f
  have HB := hide (X.below.setCell (p := ⟨w.heap.size + 1, 0, none⟩) (by show w.heap.size ≤ w.heap.size + 1; omega) (.slice none 0 0))
  clear X
  refine (CM _).mono ?_
  rintro e w1 ⟨rfl, rfl⟩
  clear CM
  go_wp2_with fail
  exact bodyPost_ret (v := .tuple #[.agg #[.slice none 0 0], .int .i64 E]) (by simp [results, Tryz.results34, go_sem, cr]) rfl ⟨_, _, _, rfl, hide (DiskV.nil _), unhide HB⟩

set_option maxRecDepth 10000 in
set_option maxHeartbeats 2000000 in
theorem rrem_yes_err (fs d1 d2 : List DF) (ep E2 : Int) (hM : zMakeE ep 0 = 0) (h2 : E2 ≠ 0) (R1 : GivesD 80 (fun x => #[x, .string ⟨epochN.toArray⟩]) fs d1 0) (W1 : GivesD 81 (fun x => #[x, .string ⟨epochN.toArray⟩, .string ⟨(zText (zMake ep 0)).toArray⟩]) d1 d2 E2) : GivesE 34 (fun x => #[x, .int .i64 ep]) fs [] E2 := by
  intro v w ht hv
  have CM := fun W => rmake_any ep 0 W
  rw [hM] at CM
  have CT := fun W (_ : Below w.heap.size w W) => rtext_any (zMake ep 0) (by have := zMake_top ep; omega) W
  have h2' : (E2 != 0) = true := by simpa using h2
  simp only [show epochN.toArray = #[101, 112, 111, 99, 104] from rfl] at R1 W1
  generalize zTextE (zMake ep 0) = te at *
  generalize zText (zMake ep 0) = T at *
  generalize zMake ep 0 = z at *
  have HV := hide hv
  have HR := hide R1
  have HW := hide W1
  obtain ⟨a, n, c, rfl⟩ := disk_slice hv
  clear hv hM R1 W1 h2 ht
  go_enter Tryz.func34, Tryz.ntmps34
  go_wp2_with fail
  have X := RBox.start w (.slice a n c)
  generalize (w.alloc (.cells #[.slice a n c] 24)).alloc (.cells #[.slice none 0 0] 24) = W0 at *
  have HX := hide X
  clear X
  refine (CM _).mono ?_
  rintro e w1 ⟨rfl, rfl⟩
  clear CM
  go_wp2_with fail
  refine (CT _ (unhide HX).below).mono ?_
  rintro e w2 ⟨rfl, hb2⟩
  have X2 := (unhide HX).next hb2
  have cd := X2.d.c
  have HX2 := hide X2
  clear hb2 X2 HX CT
  go_wp2_with fail
  refine (unhide HR _ _ ((unhide HV).next (unhide HX2).below)).mono ?_
  rintro e w3 ⟨a3, n3, c3, rfl, HD3, hb3⟩
  have X3 := (unhide HX2).next hb3
  have cd3 := X3.d.c
  have fd3 := X3.d.f
  have hk3 := X3.d.lt
  have hnk : w.heap.size ≠ w3.heap.size := by omega
  have X4 := (X3.setd (.slice a3 n3 c3)).next (allocB _ (.cells #[.slice a3 n3 c3] 24))
  have D4 := (disk_box (unhide HD3) X3.d (.slice a3 n3 c3)).alloc (.cells #[.slice a3 n3 c3] 24)
  have cd4 := X4.d.c
  have HX4 := hide X4
  have HD4 := hide D4
  clear hb3 X3 X4 D4 HD3 HX2 HR cd HV
  go_wp2_with fail
  generalize (w3.setCell ⟨w.heap.size, 0, none⟩ (.slice a3 n3 c3)).alloc (.cells #[.slice a3 n3 c3] 24) = W4 at *
  clear cd3 fd3 hk3 hnk
  refine (unhide HW _ _ (unhide HD4)).mono ?_
  rintro e w5 ⟨a5, n5, c5, rfl, HD5, hb5⟩
  have X5 := (unhide HX4).next hb5
  have cd5 := X5.d.c
  have fd5 := X5.d.f
  have X6 := X5.setd (.slice a5 n5 c5)
  have cr6 := X6.r.c
  have fr6 := X6.r.f
  have HF := hide (X6.below.setCell (p := ⟨w.heap.size + 1, 0, none⟩) (by show w.heap.size ≤ w.heap.size + 1; omega) (.slice none 0 0))
  have HCw := hide (X6.r.set (.slice none 0 0)).c
  clear hb5 X5 X6 HX4 HD4 HD5 HW cd4
  go_wp2_with fail
  exact bodyPost_ret (v := .tuple #[.agg #[.slice none 0 0], .int .i64 E2]) (by simp [results, Tryz.results34, go_sem, unhide HCw]) rfl ⟨_, _, _, rfl, hide (DiskV.nil _), unhide HF⟩

set_option maxRecDepth 10000 in
set_option maxHeartbeats 2000000 in
theorem rrem_yes_ok (fs d1 d2 d3 : List DF) (ep E3 : Int) (hM : zMakeE ep 0 = 0) (R1 : GivesD 80 (fun x => #[x, .string ⟨epochN.toArray⟩]) fs d1 0) (W1 : GivesD 81 (fun x => #[x, .string ⟨epochN.toArray⟩, .string ⟨(zText (zMake ep 0)).toArray⟩]) d1 d2 0) (S1 : GivesD 82 (fun x => #[x, .string ⟨epochN.toArray⟩]) d2 d3 E3) : GivesE 34 (fun x => #[x, .int .i64 ep]) fs d3 E3 := by
  intro v w ht hv
  have CM := fun W => rmake_any ep 0 W
  rw [hM] at CM
  have CT := fun W (_ : Below w.heap.size w W) => rtext_any (zMake ep 0) (by have := zMake_top ep; omega) W
  simp only [show epochN.toArray = #[101, 112, 111, 99, 104] from rfl] at R1 W1 S1
  generalize zTextE (zMake ep 0) = te at *
  generalize zText (zMake ep 0) = T at *
  generalize zMake ep 0 = z at *
  have HV := hide hv
  have HR := hide R1
  have HW := hide W1
  have HS := hide S1
  obtain ⟨a, n, c, rfl⟩ := disk_slice hv
  clear hv hM R1 W1 S1 ht
  go_enter Tryz.func34, Tryz.ntmps34
  go_wp2_with fail
  have X := RBox.start w (.slice a n c)
  generalize (w.alloc (.cells #[.slice a n c] 24)).alloc (.cells #[.slice none 0 0] 24) = W0 at *
  have HX := hide X
  clear X
  refine (CM _).mono ?_
  rintro e w1 ⟨rfl, rfl⟩
  clear CM
  go_wp2_with fail
  refine (CT _ (unhide HX).below).mono ?_
  rintro e w2 ⟨rfl, hb2⟩
  have X2 := (unhide HX).next hb2
  have cd := X2.d.c
  have HX2 := hide X2
  clear hb2 X2 HX CT
  go_wp2_with fail
  refine (unhide HR _ _ ((unhide HV).next (unhide HX2).below)).mono ?_
  rintro e w3 ⟨a3, n3, c3, rfl, HD3, hb3⟩
  have X3 := (unhide HX2).next hb3
  have cd3 := X3.d.c
  have fd3 := X3.d.f
  have hk3 := X3.d.lt
  have hnk : w.heap.size ≠ w3.heap.size := by omega
  have X4 := (X3.setd (.slice a3 n3 c3)).next (allocB _ (.cells #[.slice a3 n3 c3] 24))
  have D4 := (disk_box (unhide HD3) X3.d (.slice a3 n3 c3)).alloc (.cells #[.slice a3 n3 c3] 24)
  have cd4 := X4.d.c
  have HX4 := hide X4
  have HD4 := hide D4
  clear hb3 X3 X4 D4 HD3 HX2 HR cd HV
  go_wp2_with fail
  generalize (w3.setCell ⟨w.heap.size, 0, none⟩ (.slice a3 n3 c3)).alloc (.cells #[.slice a3 n3 c3] 24) = W4 at *
  clear cd3 fd3 hk3 hnk
  refine (unhide HW _ _ (unhide HD4)).mono ?_
  rintro e w5 ⟨a5, n5, c5, rfl, HD5, hb5⟩
  have X5 := (unhide HX4).next hb5
  have cd5 := X5.d.c
  have fd5 := X5.d.f
  have X6 := X5.setd (.slice a5 n5 c5)
  have D6 := disk_box (unhide HD5) X5.d (.slice a5 n5 c5)
  have cd6 := X6.d.c
  have HX6 := hide X6
  have HD6 := hide D6
  clear hb5 X5 X6 D6 HD5 HX4 HD4 HW cd4
  go_wp2_with fail
  refine (unhide HS _ _ (unhide HD6)).mono ?_
  rintro e w7 ⟨a7, n7, c7, rfl, HD7, hb7⟩
  have X7 := (unhide HX6).next hb7
  have cr7 := X7.r.c
  have fr7 := X7.r.f
  have HF := hide (And.intro (X7.below.setCell (p := ⟨w.heap.size + 1, 0, none⟩) (by show w.heap.size ≤ w.heap.size + 1; omega) (.slice a7 n7 c7)) (disk_box (unhide HD7) X7.r (.slice a7 n7 c7)))
  clear hb7 X7 HX6 HD6 HD7 HS
  go_wp2_with fail
  exact bodyPost_ret (v := .tuple #[.agg #[.slice a7 n7 c7], .int .i64 E3]) (by simp [results, Tryz.results34, go_sem, cr7]) rfl ⟨_, _, _, rfl, hide (unhide HF).2, (unhide HF).1⟩

set_option maxRecDepth 10000 in
set_option maxHeartbeats 2000000 in
theorem rrem_not_err (fs d1 d2 : List DF) (ep E1 E2 : Int) (hM : zMakeE ep 0 = 0) (h1 : E1 ≠ 0) (h2 : E2 ≠ 0) (R1 : GivesD 80 (fun x => #[x, .string ⟨epochN.toArray⟩]) fs d1 E1) (W1 : GivesD 81 (fun x => #[x, .string ⟨epochN.toArray⟩, .string ⟨(zText (zMake ep 0)).toArray⟩]) fs d2 E2) : GivesE 34 (fun x => #[x, .int .i64 ep]) fs [] E2 := by
  intro v w ht hv
  have CM := fun W => rmake_any ep 0 W
  rw [hM] at CM
  have CT := fun W (_ : Below w.heap.size w W) => rtext_any (zMake ep 0) (by have := zMake_top ep; omega) W
  have h1' : (E1 == 0) = false := by simpa using h1
  have h2' : (E2 != 0) = true := by simpa using h2
  simp only [show epochN.toArray = #[101, 112, 111, 99, 104] from rfl] at R1 W1
  generalize zTextE (zMake ep 0) = te at *
  generalize zText (zMake ep 0) = T at *
  generalize zMake ep 0 = z at *
  have HV := hide hv
  have HR := hide R1
  have HW := hide W1
  obtain ⟨a, n, c, rfl⟩ := disk_slice hv
  clear hv hM R1 W1 h2 h1 ht
  go_enter Tryz.func34, Tryz.ntmps34
  go_wp2_with fail
  have X := RBox.start w (.slice a n c)
  generalize (w.alloc (.cells #[.slice a n c] 24)).alloc (.cells #[.slice none 0 0] 24) = W0 at *
  have HX := hide X
  clear X
  refine (CM _).mono ?_
  rintro e w1 ⟨rfl, rfl⟩
  clear CM
  go_wp2_with fail
  refine (CT _ (unhide HX).below).mono ?_
  rintro e w2 ⟨rfl, hb2⟩
  have X2 := (unhide HX).next hb2
  have cd := X2.d.c
  have HX2 := hide X2
  clear hb2 X2 HX CT
  go_wp2_with fail
  refine (unhide HR _ _ ((unhide HV).next (unhide HX2).below)).mono ?_
  rintro e w3 ⟨a3, n3, c3, rfl, HD3, hb3⟩
  have X3 := (unhide HX2).next hb3
  have cd3 := X3.d.c
  have fd3 := X3.d.f
  have hk3 := X3.d.lt
  have X4 := X3.next (allocB _ (.cells #[.slice a3 n3 c3] 24))
  have D4 := (unhide HV).next X4.below
  have cd4 := X4.d.c
  have HX4 := hide X4
  have HD4 := hide D4
  clear hb3 X3 X4 D4 HD3 HX2 HR cd cd3 fd3 hk3 HV
  go_wp2_with fail
  generalize w3.alloc (.cells #[.slice a3 n3 c3] 24) = W4 at *
  refine (unhide HW _ _ (unhide HD4)).mono ?_
  rintro e w5 ⟨a5, n5, c5, rfl, HD5, hb5⟩
  have X5 := (unhide HX4).next hb5
  have cd5 := X5.d.c
  have fd5 := X5.d.f
  have X6 := X5.setd (.slice a5 n5 c5)
  have cr6 := X6.r.c
  have fr6 := X6.r.f
  have HF := hide (X6.below.setCell (p := ⟨w.heap.size + 1, 0, none⟩) (by show w.heap.size ≤ w.heap.size + 1; omega) (.slice none 0 0))
  have HCw := hide (X6.r.set (.slice none 0 0)).c
  clear hb5 X5 X6 HX4 HD4 HD5 HW cd4
  go_wp2_with fail
  exact bodyPost_ret (v := .tuple #[.agg #[.slice none 0 0], .int .i64 E2]) (by simp [results, Tryz.results34, go_sem, unhide HCw]) rfl ⟨_, _, _, rfl, hide (DiskV.nil _), unhide HF⟩

set_option maxRecDepth 10000 in
set_option maxHeartbeats 2000000 in
theorem rrem_not_ok (fs d1 d2 d3 : List DF) (ep E1 E3 : Int) (hM : zMakeE ep 0 = 0) (h1 : E1 ≠ 0) (R1 : GivesD 80 (fun x => #[x, .string ⟨epochN.toArray⟩]) fs d1 E1) (W1 : GivesD 81 (fun x => #[x, .string ⟨epochN.toArray⟩, .string ⟨(zText (zMake ep 0)).toArray⟩]) fs d2 0) (S1 : GivesD 82 (fun x => #[x, .string ⟨epochN.toArray⟩]) d2 d3 E3) : GivesE 34 (fun x => #[x, .int .i64 ep]) fs d3 E3 := by
  intro v w ht hv
  have CM := fun W => rmake_any ep 0 W
  rw [hM] at CM
  have CT := fun W (_ : Below w.heap.size w W) => rtext_any (zMake ep 0) (by have := zMake_top ep; omega) W
  have h1' : (E1 == 0) = false := by simpa using h1
  simp only [show epochN.toArray = #[101, 112, 111, 99, 104] from rfl] at R1 W1 S1
  generalize zTextE (zMake ep 0) = te at *
  generalize zText (zMake ep 0) = T at *
  generalize zMake ep 0 = z at *
  have HV := hide hv
  have HR := hide R1
  have HW := hide W1
  have HS := hide S1
  obtain ⟨a, n, c, rfl⟩ := disk_slice hv
  clear hv hM R1 W1 S1 h1 ht
  go_enter Tryz.func34, Tryz.ntmps34
  go_wp2_with fail
  have X := RBox.start w (.slice a n c)
  generalize (w.alloc (.cells #[.slice a n c] 24)).alloc (.cells #[.slice none 0 0] 24) = W0 at *
  have HX := hide X
  clear X
  refine (CM _).mono ?_
  rintro e w1 ⟨rfl, rfl⟩
  clear CM
  go_wp2_with fail
  refine (CT _ (unhide HX).below).mono ?_
  rintro e w2 ⟨rfl, hb2⟩
  have X2 := (unhide HX).next hb2
  have cd := X2.d.c
  have HX2 := hide X2
  clear hb2 X2 HX CT
  go_wp2_with fail
  refine (unhide HR _ _ ((unhide HV).next (unhide HX2).below)).mono ?_
  rintro e w3 ⟨a3, n3, c3, rfl, HD3, hb3⟩
  have X3 := (unhide HX2).next hb3
  have cd3 := X3.d.c
  have fd3 := X3.d.f
  have hk3 := X3.d.lt
  have X4 := X3.next (allocB _ (.cells #[.slice a3 n3 c3] 24))
  have D4 := (unhide HV).next X4.below
  have cd4 := X4.d.c
  have HX4 := hide X4
  have HD4 := hide D4
  clear hb3 X3 X4 D4 HD3 HX2 HR cd cd3 fd3 hk3 HV
  go_wp2_with fail
  generalize w3.alloc (.cells #[.slice a3 n3 c3] 24) = W4 at *
  refine (unhide HW _ _ (unhide HD4)).mono ?_
  rintro e w5 ⟨a5, n5, c5, rfl, HD5, hb5⟩
  have X5 := (unhide HX4).next hb5
  have cd5 := X5.d.c
  have fd5 := X5.d.f
  have X6 := X5.setd (.slice a5 n5 c5)
  have D6 := disk_box (unhide HD5) X5.d (.slice a5 n5 c5)
  have cd6 := X6.d.c
  have HX6 := hide X6
  have HD6 := hide D6
  clear hb5 X5 X6 D6 HD5 HX4 HD4 HW cd4
  go_wp2_with fail
  refine (unhide HS _ _ (unhide HD6)).mono ?_
  rintro e w7 ⟨a7, n7, c7, rfl, HD7, hb7⟩
  have X7 := (unhide HX6).next hb7
  have cr7 := X7.r.c
  have fr7 := X7.r.f
  have HF := hide (And.intro (X7.below.setCell (p := ⟨w.heap.size + 1, 0, none⟩) (by show w.heap.size ≤ w.heap.size + 1; omega) (.slice a7 n7 c7)) (disk_box (unhide HD7) X7.r (.slice a7 n7 c7)))
  clear hb7 X7 HX6 HD6 HD7 HS
  go_wp2_with fail
  exact bodyPost_ret (v := .tuple #[.agg #[.slice a7 n7 c7], .int .i64 E3]) (by simp [results, Tryz.results34, go_sem, cr7]) rfl ⟨_, _, _, rfl, hide (unhide HF).2, (unhide HF).1⟩
end Go.Proofs.YthkggmmalffcdaaGreatDoor

namespace Go.Proofs.YthkggmmalffcdaaGreatDoor
open Go.RowKit

theorem CB.dput {w W : World} {up : Bool} {id ep dn z : Int} {vd vl vn vs vw : Value} (h : CB w W up vd id ep vl dn z vn vs vw) (q : Nat) (u : Value) (hq : w.heap.size + 2 ≤ q) : CB w (W.setCell ⟨q, 0, none⟩ u) up vd id ep vl dn z vn vs vw :=
  ⟨h.below.setCell (by simp only; omega) u, h.s.other (by omega), h.r.other (by omega)⟩
/-- the number up to which Follow keeps a log: that of the k-th of l -/
def FolZ (l : List WTxn) (k : Nat) (z : Int) : Prop := (k = 0 ∧ z = -1) ∨ ∃ x, 0 < k ∧ l[k - 1]? = some x ∧ z = x.z

set_option maxRecDepth 10000 in
set_option maxHeartbeats 4000000 in
theorem sfol_order (s : Sv) (v : Value) (vl : Value) (l : List WTxn) (epo : Int) (w : World) (hv : SvV w v s) (hvl : LogV w vl l) (hf : Fits s) (hll : l.length ≤ 1000000000) (hk : (comN s.ts l : Int) < s.dn) :
    Calls Tryz.prog 11 #[v, vl, .int .i64 epo] w (GivesZ w 13) := by
  obtain ⟨ad, nd, cd, al, cl, an, cn, ai, ci, aw, cw, rfl, d1, l1, n1, s1, k1⟩ := hv.five
  have CC := hide (fun W (hW : Below w.heap.size w W) => common_any _ vl s.ts l W (l1.next hW) (hvl.next hW) (by have := hf.l; omega) (by omega))
  obtain ⟨lb, lc, rfl⟩ := log_slice hvl
  clear hv d1 l1 n1 s1 k1 hvl hf hll
  obtain ⟨up, fs, id, ep, ts, dn, ⟨tz, tns, tss⟩, ws⟩ := s
  simp only at *
  generalize comN ts l = k at *
  go_enter Tryz.func11, Tryz.ntmps11
  go_wp2_with fail
  have X0 := hide (CB.start w up id ep dn tz (.slice ad nd cd) (.slice al ts.length cl) (.slice an tns.length cn) (.slice ai tss.length ci) (.slice aw ws.length cw))
  generalize (w.alloc (.cells #[.bool up, .slice ad nd cd, .int .i64 id, .int .i64 ep, .slice al ts.length cl, .int .i64 dn, .int .i64 tz, .slice an tns.length cn, .slice ai tss.length ci, .slice aw ws.length cw] 34)).alloc (.cells #[.bool false, .slice none 0 0, .int .i64 0, .int .i64 0, .slice none 0 0, .int .i64 0, .int .i64 0, .slice none 0 0, .slice none 0 0, .slice none 0 0] 34) = W0 at *
  refine (unhide CC _ (unhide X0).below).mono ?_
  rintro e w1 ⟨rfl, hb1⟩
  have X1 := hide ((unhide X0).next hb1)
  have x5 := (unhide X1).s.cells.2.2.2.2.2.1
  clear hb1 X0 CC
  obtain ⟨r0, r1, r2, r3, r4, r5, r6, r7, r8, r9⟩ := (unhide X1).r.cells
  have rf0 := (unhide X1).r.froz 0
  have rf1 := (unhide X1).r.froz 1
  have rf2 := (unhide X1).r.froz 2
  have rf3 := (unhide X1).r.froz 3
  have rf4 := (unhide X1).r.froz 4
  have rf5 := (unhide X1).r.froz 5
  have rf6 := (unhide X1).r.froz 6
  have rf7 := (unhide X1).r.froz 7
  have rf8 := (unhide X1).r.froz 8
  have rf9 := (unhide X1).r.froz 9
  go_wp2_with fail
  exact bodyPost_ret (v := .tuple #[.agg #[.bool false, .slice none 0 0, .int .i64 0, .int .i64 0, .slice none 0 0, .int .i64 0, .int .i64 0, .slice none 0 0, .slice none 0 0, .slice none 0 0], .int .i64 13]) (by simp [results, Tryz.results11, go_sem, r0, r1, r2, r3, r4, r5, r6, r7, r8, r9]) rfl (givesZ_of rfl (unhide X1).zero)

set_option maxRecDepth 10000 in
set_option maxHeartbeats 4000000 in
theorem sfol_keep (s : Sv) (v : Value) (vl : Value) (l : List WTxn) (epo : Int) (w : World) (hv : SvV w v s) (hvl : LogV w vl l) (hf : Fits s) (hll : l.length ≤ 1000000000) (hk : ¬ (comN s.ts l : Int) < s.dn) (z E : Int) (d2 : List DF) (hz : FolZ l (comN s.ts l) z) (hE : E ≠ 0) (G : GivesD 29 (fun g => #[g, .int .i64 z]) s.fs d2 E) :
    Calls Tryz.prog 11 #[v, vl, .int .i64 epo] w (GivesZ w E) := by
  obtain ⟨ad, nd, cd, al, cl, an, cn, ai, ci, aw, cw, rfl, d1, l1, n1, s1, k1⟩ := hv.five
  have CC := hide (fun W (hW : Below w.heap.size w W) => common_any _ vl s.ts l W (l1.next hW) (hvl.next hW) (by have := hf.l; omega) (by omega))
  have HG := hide (fun W (hW : Below w.heap.size w W) => G _ W (d1.next hW))
  have HLR := hide (fun (j : Nat) (x : WTxn) (hx : l[j]? = some x) W (hW : Below w.heap.size w W) => log_row (hvl.next hW) hx)
  obtain ⟨lb, lc, rfl⟩ := log_slice hvl
  have hne : (E != 0) = true := by simpa using hE
  clear hv d1 l1 n1 s1 k1 hvl hf G hE
  obtain ⟨up, fs, id, ep, ts, dn, ⟨tz, tns, tss⟩, ws⟩ := s
  simp only at *
  go_enter Tryz.func11, Tryz.ntmps11
  go_wp2_with fail
  have X0 := hide (CB.start w up id ep dn tz (.slice ad nd cd) (.slice al ts.length cl) (.slice an tns.length cn) (.slice ai tss.length ci) (.slice aw ws.length cw))
  generalize (w.alloc (.cells #[.bool up, .slice ad nd cd, .int .i64 id, .int .i64 ep, .slice al ts.length cl, .int .i64 dn, .int .i64 tz, .slice an tns.length cn, .slice ai tss.length ci, .slice aw ws.length cw] 34)).alloc (.cells #[.bool false, .slice none 0 0, .int .i64 0, .int .i64 0, .slice none 0 0, .int .i64 0, .int .i64 0, .slice none 0 0, .slice none 0 0, .slice none 0 0] 34) = W0 at *
  refine (unhide CC _ (unhide X0).below).mono ?_
  rintro e w1 ⟨rfl, hb1⟩
  have X1 := hide ((unhide X0).next hb1)
  have x5 := (unhide X1).s.cells.2.2.2.2.2.1
  clear hb1 X0 CC
  have x1 := (unhide X1).s.cells.2.1
  have hkl := (comN_le ts l).2
  generalize comN ts l = k at *
  have hnk : ¬ ((k : Int) < dn) := by omega
  go_upto_if 27 with fail
  go_cut [9] from 15 (fun t9 wx => t9 = .int .i64 z ∧ wx = w1)
  case first =>
    rcases hz with ⟨rfl, rfl⟩ | ⟨x, hk0, hx, rfl⟩
    · go_wp2_with fail
      go_meet
      exact ⟨rfl, rfl⟩
    · obtain ⟨m, rfl⟩ : ∃ m, k = m + 1 := ⟨k - 1, by omega⟩
      simp only [Nat.add_sub_cancel] at hx
      obtain ⟨b, o, c, he, hb, q, hm1, _⟩ := unhide HLR m x hx w1 (unhide X1).below
      simp only [Value.slice.injEq] at he
      obtain ⟨rfl, _, rfl⟩ := he
      have e0 := q.z hx
      generalize x.z = z at *
      have i1 : (m : Int) < (l.length : Int) := by omega
      have i2 : (0 : Int) < ((m + 1 : Nat) : Int) := by omega
      have i3 : IntKind.i64.wrap (((m + 1 : Nat) : Int) - 1) = (m : Int) := by rw [IntKind.wrap_i64]; omega
      have i4 : (((m + 1 : Nat) : Int) - 1) = (m : Int) := by omega
      clear q hx
      go_wp2_with fail
      go_meet
      exact ⟨rfl, rfl⟩
  case rest =>
    obtain ⟨rfl, rfl⟩ := hcut
    clear HLR
    go_wp2_with fail
    refine (unhide HG _ (unhide X1).below).mono ?_
    rintro e w2 ⟨a2, n2, c2, rfl, D2, hb2⟩
    have hal := allocB w2 (.cells #[.slice a2 n2 c2] 24)
    have X2 := hide (((unhide X1).next hb2).next hal)
    have A2 := hide (BoxAt.new w2 (.slice a2 n2 c2))
    have F2 := hide ((unhide D2).next hal)
    have Q2 := hide (show w.heap.size + 2 ≤ w2.heap.size from ((unhide X1).next hb2).lt)
    clear hb2 hal X1 D2 HG x1 x5
    go_upto_region 9 with fail
    generalize w2.heap.size = q2 at *
    generalize w2.alloc (.cells #[.slice a2 n2 c2] 24) = W2 at *
    obtain ⟨r0, r1, r2, r3, r4, r5, r6, r7, r8, r9⟩ := (unhide X2).r.cells
    have rf0 := (unhide X2).r.froz 0
    have rf1 := (unhide X2).r.froz 1
    have rf2 := (unhide X2).r.froz 2
    have rf3 := (unhide X2).r.froz 3
    have rf4 := (unhide X2).r.froz 4
    have rf5 := (unhide X2).r.froz 5
    have rf6 := (unhide X2).r.froz 6
    have rf7 := (unhide X2).r.froz 7
    have rf8 := (unhide X2).r.froz 8
    have rf9 := (unhide X2).r.froz 9
    go_wp2_with fail
    exact bodyPost_ret (v := .tuple #[.agg #[.bool false, .slice none 0 0, .int .i64 0, .int .i64 0, .slice none 0 0, .int .i64 0, .int .i64 0, .slice none 0 0, .slice none 0 0, .slice none 0 0], .int .i64 E]) (by simp [results, Tryz.results11, go_sem, r0, r1, r2, r3, r4, r5, r6, r7, r8, r9]) rfl (givesZ_of rfl (unhide X2).zero)

set_option maxRecDepth 10000 in
set_option maxHeartbeats 4000000 in
theorem sfol_rem (s : Sv) (v : Value) (vl : Value) (l : List WTxn) (epo : Int) (w : World) (hv : SvV w v s) (hvl : LogV w vl l) (hf : Fits s) (hll : l.length ≤ 1000000000) (ht : TabP w) (hk : ¬ (comN s.ts l : Int) < s.dn) (z E : Int) (d2 d3 : List DF) (hz : FolZ l (comN s.ts l) z) (hE : E ≠ 0) (G : GivesD 29 (fun g => #[g, .int .i64 z]) s.fs d2 0) (R : GivesE 30 (fun g => #[g, .int .i64 epo]) d2 d3 E) :
    Calls Tryz.prog 11 #[v, vl, .int .i64 epo] w (GivesZ w E) := by
  obtain ⟨ad, nd, cd, al, cl, an, cn, ai, ci, aw, cw, rfl, d1, l1, n1, s1, k1⟩ := hv.five
  have CC := hide (fun W (hW : Below w.heap.size w W) => common_any _ vl s.ts l W (l1.next hW) (hvl.next hW) (by have := hf.l; omega) (by omega))
  have HG := hide (fun W (hW : Below w.heap.size w W) => G _ W (d1.next hW))
  have HLR := hide (fun (j : Nat) (x : WTxn) (hx : l[j]? = some x) W (hW : Below w.heap.size w W) => log_row (hvl.next hW) hx)
  obtain ⟨lb, lc, rfl⟩ := log_slice hvl
  have hne : (E != 0) = true := by simpa using hE
  have HR := hide R
  have HTab := hide (fun W (hW : Below w.heap.size w W) => ht.next hW)
  clear hv d1 l1 n1 s1 k1 hvl hf G hE R ht
  obtain ⟨up, fs, id, ep, ts, dn, ⟨tz, tns, tss⟩, ws⟩ := s
  simp only at *
  go_enter Tryz.func11, Tryz.ntmps11
  go_wp2_with fail
  have X0 := hide (CB.start w up id ep dn tz (.slice ad nd cd) (.slice al ts.length cl) (.slice an tns.length cn) (.slice ai tss.length ci) (.slice aw ws.length cw))
  generalize (w.alloc (.cells #[.bool up, .slice ad nd cd, .int .i64 id, .int .i64 ep, .slice al ts.length cl, .int .i64 dn, .int .i64 tz, .slice an tns.length cn, .slice ai tss.length ci, .slice aw ws.length cw] 34)).alloc (.cells #[.bool false, .slice none 0 0, .int .i64 0, .int .i64 0, .slice none 0 0, .int .i64 0, .int .i64 0, .slice none 0 0, .slice none 0 0, .slice none 0 0] 34) = W0 at *
  refine (unhide CC _ (unhide X0).below).mono ?_
  rintro e w1 ⟨rfl, hb1⟩
  have X1 := hide ((unhide X0).next hb1)
  have x5 := (unhide X1).s.cells.2.2.2.2.2.1
  clear hb1 X0 CC
  have x1 := (unhide X1).s.cells.2.1
  have hkl := (comN_le ts l).2
  generalize comN ts l = k at *
  have hnk : ¬ ((k : Int) < dn) := by omega
  go_upto_if 27 with fail
  go_cut [9] from 15 (fun t9 wx => t9 = .int .i64 z ∧ wx = w1)
  case first =>
    rcases hz with ⟨rfl, rfl⟩ | ⟨x, hk0, hx, rfl⟩
    · go_wp2_with fail
      go_meet
      exact ⟨rfl, rfl⟩
    · obtain ⟨m, rfl⟩ : ∃ m, k = m + 1 := ⟨k - 1, by omega⟩
      simp only [Nat.add_sub_cancel] at hx
      obtain ⟨b, o, c, he, hb, q, hm1, _⟩ := unhide HLR m x hx w1 (unhide X1).below
      simp only [Value.slice.injEq] at he
      obtain ⟨rfl, _, rfl⟩ := he
      have e0 := q.z hx
      generalize x.z = z at *
      have i1 : (m : Int) < (l.length : Int) := by omega
      have i2 : (0 : Int) < ((m + 1 : Nat) : Int) := by omega
      have i3 : IntKind.i64.wrap (((m + 1 : Nat) : Int) - 1) = (m : Int) := by rw [IntKind.wrap_i64]; omega
      have i4 : (((m + 1 : Nat) : Int) - 1) = (m : Int) := by omega
      clear q hx
      go_wp2_with fail
      go_meet
      exact ⟨rfl, rfl⟩
  case rest =>
    obtain ⟨rfl, rfl⟩ := hcut
    clear HLR
    go_wp2_with fail
    refine (unhide HG _ (unhide X1).below).mono ?_
    rintro e w2 ⟨a2, n2, c2, rfl, D2, hb2⟩
    have hal := allocB w2 (.cells #[.slice a2 n2 c2] 24)
    have X2 := hide (((unhide X1).next hb2).next hal)
    have A2 := hide (BoxAt.new w2 (.slice a2 n2 c2))
    have F2 := hide ((unhide D2).next hal)
    have Q2 := hide (show w.heap.size + 2 ≤ w2.heap.size from ((unhide X1).next hb2).lt)
    clear hb2 hal X1 D2 HG x1 x5
    have ca := (unhide A2).c
    have fa := (unhide A2).f
    go_wp2_with fail
    generalize w2.heap.size = q2 at *
    generalize w2.alloc (.cells #[.slice a2 n2 c2] 24) = W2 at *
    refine (unhide HR _ _ (unhide HTab _ (unhide X2).below) (unhide F2)).mono ?_
    rintro e w3 ⟨a3, n3, c3, rfl, D3, hb3⟩
    have X3 := (unhide X2).next hb3
    have A3 := (unhide A2).next hb3
    have ca3 := A3.c
    have fa3 := A3.f
    have Y3 := X3.dput q2 (.slice a3 n3 c3) (by have := unhide Q2; omega)
    have E3 := disk_box (unhide D3) A3 (.slice a3 n3 c3)
    have B3 := A3.set (.slice a3 n3 c3)
    have HX3 := hide Y3
    have HD3 := hide E3
    have HA3 := hide B3
    clear hb3 X2 A2 F2 D3 X3 A3 Y3 E3 B3 HR ca fa
    go_upto_region 12 with fail
    generalize w3.setCell ⟨q2, 0, none⟩ (.slice a3 n3 c3) = W3 at *
    clear ca3 fa3
    obtain ⟨r0, r1, r2, r3, r4, r5, r6, r7, r8, r9⟩ := (unhide HX3).r.cells
    have rf0 := (unhide HX3).r.froz 0
    have rf1 := (unhide HX3).r.froz 1
    have rf2 := (unhide HX3).r.froz 2
    have rf3 := (unhide HX3).r.froz 3
    have rf4 := (unhide HX3).r.froz 4
    have rf5 := (unhide HX3).r.froz 5
    have rf6 := (unhide HX3).r.froz 6
    have rf7 := (unhide HX3).r.froz 7
    have rf8 := (unhide HX3).r.froz 8
    have rf9 := (unhide HX3).r.froz 9
    go_wp2_with fail
    exact bodyPost_ret (v := .tuple #[.agg #[.bool false, .slice none 0 0, .int .i64 0, .int .i64 0, .slice none 0 0, .int .i64 0, .int .i64 0, .slice none 0 0, .slice none 0 0, .slice none 0 0], .int .i64 E]) (by simp [results, Tryz.results11, go_sem, r0, r1, r2, r3, r4, r5, r6, r7, r8, r9]) rfl (givesZ_of rfl (unhide HX3).zero)

end Go.Proofs.YthkggmmalffcdaaGreatDoor
