/-
  What zxid.part and zxid.Read answer, for every text: the walks; strings.Cut at a separator of one byte beside them.
  What store.Epoch and aviaryref.EpochOf answer: the walks.
  What wal.Last and wal.follows answer: the walks.
  What wire's cursor answers: the walks of text and number; a world in which one block alone has turned.
  What wal.Scan answers, over what wire.Decode does: the walk.
  A log on a disk, as plain lists: what is recovered, what is kept. No walk is here.
-/
import Derived.Test.YtoacignhobchbaaGreatDoorSUAG
import Derived.Test.YtoacignhobchbaaGreatDoorSUQ
import Derived.Test.YtoacignhobchbaaGreatDoorShelf
import Derived.WalkSmall
import Derived.RegionTactic
import Derived.Test.YtoacignhobchbaaGreatDoorSUU
import Derived.Test.YtoacignhobchbaaGreatDoorSUE
import Derived.Test.YtoacignhobchbaaGreatDoorSUM
import Derived.Test.YtoacignhobchbaaGreatDoorRows
import Derived.WalkSpells
import Derived.WalkLawsBesides
import Derived.Deep.RegionHeld3
import Derived.Deep.RegionLaw
import Derived.Test.YtoacignhobchbaaGreatDoorSUA
import Derived.WalkKit
namespace Go.Proofs.YtoacignhobchbaaGreatDoor
open Go.RowKit

theorem zsize_list (s : ByteArray) : s.data.toList.length = s.size := by simp
theorem ret_part {i j : Int} {a b : Bool} (h : i = j) (h' : a = b) : Ending.returned (.tuple #[.int .i64 i, .bool a]) = .returned (.tuple #[.int .i64 j, .bool b]) := by rw [h, h']
theorem zhead (s : ByteArray) (h : 0 < s.size) : s.data.toList.head? = some s[0] := by
  rw [List.head?_eq_getElem?, List.getElem?_eq_getElem (by simpa using h)]; rfl
theorem num_take (s : ByteArray) (k : Nat) (h : k < s.size) : num (s.data.toList.take (k + 1)) = 10 * num (s.data.toList.take k) + (s[k].toNat - 48) := by
  rw [take_snoc s k h, num_snoc]
theorem num_small (s : ByteArray) (k : Nat) (h : k < 10) (ha : (s.data.toList.take k).all isD = true) : num (s.data.toList.take k) < 1000000000 := by
  have h1 := num_lt _ ha
  have h2 : (s.data.toList.take k).length ≤ 9 := by rw [List.length_take]; omega
  have h3 : 10 ^ (s.data.toList.take k).length ≤ 10 ^ 9 := Nat.pow_le_pow_right (by decide) h2
  have h4 : (10 : Nat) ^ 9 = 1000000000 := by decide
  omega

set_option maxRecDepth 10000 in
set_option maxHeartbeats 400000 in
theorem part_any (s : ByteArray) (w : World) (hs : s.size ≤ 140737488355328) :
    Calls Tryz.prog 102 #[.string s] w fun e w' => e = .returned (.tuple #[.int .i64 (partN s.data.toList), .bool (partB s.data.toList)]) ∧ w' = w := by
  have hz := zsize_list s
  by_cases h1 : s.size < 1
  · have hp : partB s.data.toList = false := partB_no (by omega)
    have H := hide hp
    clear hp
    go_enter Tryz.func102, Tryz.ntmps102
    go_wp2
    go_ret2
    exact ⟨ret_part (partN_no (unhide H)).symm (unhide H).symm, rfl⟩
  by_cases h2 : 10 < s.size
  · have hp : partB s.data.toList = false := partB_no (by omega)
    have H := hide hp
    clear hp
    go_enter Tryz.func102, Tryz.ntmps102
    go_wp2
    go_ret2
    exact ⟨ret_part (partN_no (unhide H)).symm (unhide H).symm, rfl⟩
  have hhd := zhead s (by omega)
  have h0 : 0 < s.size := by omega
  by_cases h3 : 1 < s.size ∧ s[0] = 48
  · have hp : partB s.data.toList = false := partB_no (by
      rintro ⟨_, _, h, _⟩
      exact h (by omega) (by rw [hhd, h3.2]))
    have H := hide hp
    have h4 : ((s[0].toNat : Int) == 48) = true := by rw [h3.2]; rfl
    have h5 := h3.1
    clear hp h3 hhd
    go_enter Tryz.func102, Tryz.ntmps102
    go_wp2
    go_ret2
    exact ⟨ret_part (partN_no (unhide H)).symm (unhide H).symm, rfl⟩
  have Hok : Hid (s.data.toList.all isD = true → partB s.data.toList = true) := hide (fun h => partB_iff.2 ⟨by omega, by omega, fun hl e => h3 ⟨by omega, by rw [hhd] at e; exact Option.some.inj e⟩, h⟩)
  have Hno : Hid (s.data.toList.all isD = false → partB s.data.toList = false) := hide (fun h => partB_no (fun hh => by rw [h] at hh; exact absurd hh.2.2.2 (by decide)))
  have h4 : 1 < s.size → ((s[0].toNat : Int) == 48) = false := fun hl => by
    rw [beq_eq_false_iff_ne]
    intro e
    exact h3 ⟨hl, UInt8.toNat_inj.1 (by show s[0].toNat = 48; omega)⟩
  clear h3 hhd
  by_cases h5 : 1 < s.size
  · have h6 := h4 h5
    clear h4
    go_enter Tryz.func102, Tryz.ntmps102
    go_wp2
    clear h6
    go_loop [4, 26] (fun n i => ∃ k : Nat, k ≤ s.size ∧ i = .int .i64 k ∧ n = .int .i64 (num (s.data.toList.take k) : Int) ∧ (s.data.toList.take k).all isD = true) (fun _ i => s.size - (intOf i).toNat)
    case atStart => exact ⟨0, Nat.zero_le _, rfl, rfl, by simp⟩
    case round =>
      obtain ⟨k, hk, rfl, rfl, hall⟩ := hrel
      have Hall := hide hall
      by_cases hlt : k < s.size
      · have hsm := num_small s k (by omega) hall
        have Hnt := hide (num_take s k hlt)
        clear hall
        obtain ⟨n, hn⟩ : ∃ n, num (s.data.toList.take k) = n := ⟨_, rfl⟩
        rw [hn] at hsm Hnt ⊢
        clear hn
        by_cases hd : isD s[k] = true
        · have hd1 := (isD_iff.1 hd).1
          have hd2 := (isD_iff.1 hd).2
          have Hd := hide hd
          clear hd
          go_wp2
          go_round
          case rel => exact ⟨k + 1, by omega, by go_num, by rw [unhide Hnt]; go_num, all_take_succ s k hlt isD (unhide Hall) (unhide Hd)⟩
          case measure => simp [intOf]; omega
        · have hd' : isD s[k] = false := by simpa using hd
          have hp := unhide Hno (not_all_of s k hlt isD hd')
          have hq : s[k].toNat < 48 ∨ 57 < s[k].toNat := by
            by_cases hc : 48 ≤ s[k].toNat ∧ s[k].toNat ≤ 57
            · exact absurd (isD_iff.2 hc) hd
            · omega
          have H := hide hp
          clear hp hd hd'
          rcases hq with hq | hq
          · go_wp2
            go_ret2
            exact ⟨ret_part (partN_no (unhide H)).symm (unhide H).symm, rfl⟩
          · go_wp2
            go_ret2
            exact ⟨ret_part (partN_no (unhide H)).symm (unhide H).symm, rfl⟩
      · have hp := unhide Hok (all_of_size s k (by omega) isD hall)
        have H := hide hp
        have hkk : s.data.toList.take k = s.data.toList := List.take_of_length_le (by omega)
        rw [hkk]
        clear hp hall Hall hkk
        go_wp2
        go_ret2
        exact ⟨ret_part (partN_yes (unhide H)).symm (unhide H).symm, rfl⟩
  · clear h4
    go_enter Tryz.func102, Tryz.ntmps102
    go_wp2
    go_loop [4, 26] (fun n i => ∃ k : Nat, k ≤ s.size ∧ i = .int .i64 k ∧ n = .int .i64 (num (s.data.toList.take k) : Int) ∧ (s.data.toList.take k).all isD = true) (fun _ i => s.size - (intOf i).toNat)
    case atStart => exact ⟨0, Nat.zero_le _, rfl, rfl, by simp⟩
    case round =>
      obtain ⟨k, hk, rfl, rfl, hall⟩ := hrel
      have Hall := hide hall
      by_cases hlt : k < s.size
      · have hsm := num_small s k (by omega) hall
        have Hnt := hide (num_take s k hlt)
        clear hall
        obtain ⟨n, hn⟩ : ∃ n, num (s.data.toList.take k) = n := ⟨_, rfl⟩
        rw [hn] at hsm Hnt ⊢
        clear hn
        by_cases hd : isD s[k] = true
        · have hd1 := (isD_iff.1 hd).1
          have hd2 := (isD_iff.1 hd).2
          have Hd := hide hd
          clear hd
          go_wp2
          go_round
          case rel => exact ⟨k + 1, by omega, by go_num, by rw [unhide Hnt]; go_num, all_take_succ s k hlt isD (unhide Hall) (unhide Hd)⟩
          case measure => simp [intOf]; omega
        · have hd' : isD s[k] = false := by simpa using hd
          have hp := unhide Hno (not_all_of s k hlt isD hd')
          have hq : s[k].toNat < 48 ∨ 57 < s[k].toNat := by
            by_cases hc : 48 ≤ s[k].toNat ∧ s[k].toNat ≤ 57
            · exact absurd (isD_iff.2 hc) hd
            · omega
          have H := hide hp
          clear hp hd hd'
          rcases hq with hq | hq
          · go_wp2
            go_ret2
            exact ⟨ret_part (partN_no (unhide H)).symm (unhide H).symm, rfl⟩
          · go_wp2
            go_ret2
            exact ⟨ret_part (partN_no (unhide H)).symm (unhide H).symm, rfl⟩
      · have hp := unhide Hok (all_of_size s k (by omega) isD hall)
        have H := hide hp
        have hkk : s.data.toList.take k = s.data.toList := List.take_of_length_le (by omega)
        rw [hkk]
        clear hp hall Hall hkk
        go_wp2
        go_ret2
        exact ⟨ret_part (partN_yes (unhide H)).symm (unhide H).symm, rfl⟩

theorem index_hit {a b : List UInt8} (h : ∀ c ∈ a, c ≠ 46) : Lib.indexByte (a ++ 46 :: b) 46 = (a.length : Int) := by
  induction a with
  | nil => rfl
  | cons x a ih =>
    have hx : (x == 46) = false := by simpa using h x (by simp)
    have ih' := ih (fun c hc => h c (by simp [hc]))
    show Lib.indexByte (x :: (a ++ 46 :: b)) 46 = _
    rw [Lib.indexByte, if_neg (by simp [hx]), ih', if_neg (by simp)]
    simp
theorem index_miss {l : List UInt8} (h : ∀ c ∈ l, c ≠ 46) : Lib.indexByte l 46 = -1 := by
  induction l with
  | nil => rfl
  | cons x a ih =>
    have hx : (x == 46) = false := by simpa using h x (by simp)
    have ih' := ih (fun c hc => h c (by simp [hc]))
    rw [Lib.indexByte, if_neg (by simp [hx]), ih']
    rfl
theorem zba_eq {a : ByteArray} {l : List UInt8} (h : a.data.toList = l) : a = ⟨l.toArray⟩ := by rw [← h]
theorem ext_front (a b : List UInt8) : (ByteArray.mk (a ++ 46 :: b).toArray).extract 0 a.length = ⟨a.toArray⟩ := by
  apply zba_eq
  rw [← Lib.toList_data, Lib.extract_toList]
  show ((a ++ 46 :: b).drop 0).take (a.length - 0) = a
  simp
theorem ext_back (a b : List UInt8) (n : Nat) (hn : n = (a ++ 46 :: b).length) : (ByteArray.mk (a ++ 46 :: b).toArray).extract (a.length + 1) n = ⟨b.toArray⟩ := by
  subst hn
  apply zba_eq
  rw [← Lib.toList_data, Lib.extract_toList]
  show ((a ++ 46 :: b).drop (a.length + 1)).take ((a ++ 46 :: b).length - (a.length + 1)) = b
  rw [show (a ++ 46 :: b).drop (a.length + 1) = b from by simp]
  exact List.take_of_length_le (by simp; omega)
theorem ret_cut {a b c d : ByteArray} {x : Bool} (h : a = b) (h' : c = d) : Ending.returned (.tuple #[.string a, .string c, .bool x]) = .returned (.tuple #[.string b, .string d, .bool x]) := by rw [h, h']

set_option maxRecDepth 10000 in
set_option maxHeartbeats 400000 in
theorem cutlite_any (l : List UInt8) (w : World) (hl : l.length ≤ 140737488355328) :
    Calls Tryz.prog 133 #[.string ⟨l.toArray⟩, .string ⟨#[46]⟩] w fun e w' => ∃ b, e = .returned (.tuple #[.string ⟨(cutA l).toArray⟩, .string ⟨(cutZ l).toArray⟩, .bool b]) ∧ Below w.heap.size w w' := by
  have hz : (ByteArray.mk l.toArray).size = l.length := Lib.size_eq ⟨l.toArray⟩
  rcases dot_cases l with hd | ⟨a, b, rfl, hd⟩
  · have H := hide (cut_miss hd)
    have HI := hide (index_miss hd)
    clear hd
    go_enter Tryz.func133, Tryz.ntmps133
    go_wp2_with fail
    refine (Tryz.stringslite_Index_one ⟨l.toArray⟩ 46 _).mono ?_
    rintro e w1 ⟨rfl, rfl⟩
    rw [show Lib.indexByte (ByteArray.mk l.toArray).data.toList 46 = -1 from unhide HI]
    go_wp2_with fail
    go_ret3
    exact ⟨_, ret_cut (by rw [(unhide H).1]) (by rw [(unhide H).2]), Below.refl _ _⟩
  · have H := hide (cut_hit (b := b) hd)
    have HI := hide (index_hit (b := b) hd)
    have hlen : (a ++ 46 :: b).length = a.length + 1 + b.length := by simp; omega
    rw [hlen] at hz hl
    have HL := hide hlen
    have H1 := hide (ext_front a b)
    have H2 := hide (ext_back a b _ rfl)
    clear hd hlen
    obtain ⟨S, hS⟩ : ∃ S, (ByteArray.mk (a ++ 46 :: b).toArray) = S := ⟨_, rfl⟩
    rw [hS] at hz H1 H2 ⊢
    have HI' : Hid (Lib.indexByte S.data.toList 46 = (a.length : Int)) := hide (by rw [← hS]; exact unhide HI)
    have HE : Hid (S.extract (a.length + 1) (a.length + 1 + b.length) = ⟨b.toArray⟩) := hide (by rw [← unhide HL]; exact unhide H2)
    clear hS HI H2
    have c1 : (0 : Int) ≤ (a.length : Int) := by omega
    have c2 : (a.length : Int) ≤ (S.size : Int) := by omega
    have c3 : (0 : Int) ≤ (a.length : Int) + 1 := by omega
    have c4 : (a.length : Int) + 1 ≤ (S.size : Int) := by omega
    go_enter Tryz.func133, Tryz.ntmps133
    go_wp2_with fail
    refine (Tryz.stringslite_Index_one S 46 _).mono ?_
    rintro e w1 ⟨rfl, rfl⟩
    rw [unhide HI']
    go_wp2_with fail
    go_region
    go_wp2
    go_ret3
    exact ⟨_, ret_cut (by rw [(unhide H).1]; exact unhide H1) (by rw [(unhide H).2]; exact unhide HE), (Below.refl _ _).drew⟩

set_option maxRecDepth 10000 in
set_option maxHeartbeats 400000 in
theorem cut_any (l : List UInt8) (w : World) (hl : l.length ≤ 140737488355328) :
    Calls Tryz.prog 101 #[.string ⟨l.toArray⟩, .string ⟨#[46]⟩] w fun e w' => ∃ b, e = .returned (.tuple #[.string ⟨(cutA l).toArray⟩, .string ⟨(cutZ l).toArray⟩, .bool b]) ∧ Below w.heap.size w w' := by
  go_enter Tryz.func101, Tryz.ntmps101
  go_wp2_with fail
  refine (cutlite_any l _ hl).mono ?_
  rintro e w1 ⟨b, rfl, hb1⟩
  go_wp2_with fail
  go_ret3
  exact ⟨_, rfl, hb1⟩
theorem cut_len (l : List UInt8) : (cutA l).length ≤ l.length ∧ (cutZ l).length ≤ l.length := by
  constructor
  · exact (List.takeWhile_prefix _).length_le
  · rw [cutZ, List.length_drop]
    have := (List.dropWhile_suffix (l := l) (fun c => c != 46)).length_le
    omega

set_option maxRecDepth 10000 in
set_option maxHeartbeats 400000 in
theorem zread_any (l : List UInt8) (w : World) (hl : l.length ≤ 140737488355328) :
    Calls Tryz.prog 64 #[.string ⟨l.toArray⟩] w fun e w' => e = .returned (.tuple #[.int .i64 (zRead l), .int .i64 (zReadE l)]) ∧ Below w.heap.size w w' := by
  have hc := cut_len l
  have c1 := hc.1
  have c2 := hc.2
  clear hc
  cases h1 : partB (cutA l)
  · have H := hide (zRead_no (.inl h1))
    have HA : Hid (partN (cutA l) = 0 ∧ partB (cutA l) = false) := hide ⟨partN_no h1, h1⟩
    clear h1
    go_enter Tryz.func64, Tryz.ntmps64
    go_wp2_with fail
    refine (cut_any l _ hl).mono ?_
    rintro e w1 ⟨b, rfl, hb1⟩
    go_wp2_with fail
    refine (part_any ⟨(cutA l).toArray⟩ _ (by rw [Lib.size_eq]; show (cutA l).length ≤ _; omega)).mono ?_
    rintro e w2 ⟨rfl, rfl⟩
    rw [show (ByteArray.mk (cutA l).toArray).data.toList = cutA l from rfl, (unhide HA).1, (unhide HA).2]
    go_wp2_with fail
    refine (part_any ⟨(cutZ l).toArray⟩ _ (by rw [Lib.size_eq]; show (cutZ l).length ≤ _; omega)).mono ?_
    rintro e w2 ⟨rfl, rfl⟩
    rw [show (ByteArray.mk (cutZ l).toArray).data.toList = cutZ l from rfl]
    obtain ⟨B, hB⟩ : ∃ B, partB (cutZ l) = B := ⟨_, rfl⟩
    obtain ⟨M, hM⟩ : ∃ M, partN (cutZ l) = M := ⟨_, rfl⟩
    rw [hB, hM]
    clear hB hM HA
    go_wp2_with fail
    go_ret2
    exact ⟨ret_int2 (unhide H).1.symm (unhide H).2.symm, hb1⟩
  cases h2 : partB (cutZ l)
  · have H := hide (zRead_no (.inr h2))
    have HA : Hid (partN (cutA l) = num (cutA l) ∧ partB (cutA l) = true) := hide ⟨partN_yes h1, h1⟩
    have HZ : Hid (partN (cutZ l) = 0 ∧ partB (cutZ l) = false) := hide ⟨partN_no h2, h2⟩
    clear h1 h2
    go_enter Tryz.func64, Tryz.ntmps64
    go_wp2_with fail
    refine (cut_any l _ hl).mono ?_
    rintro e w1 ⟨b, rfl, hb1⟩
    go_wp2_with fail
    refine (part_any ⟨(cutA l).toArray⟩ _ (by rw [Lib.size_eq]; show (cutA l).length ≤ _; omega)).mono ?_
    rintro e w2 ⟨rfl, rfl⟩
    rw [show (ByteArray.mk (cutA l).toArray).data.toList = cutA l from rfl, (unhide HA).1, (unhide HA).2]
    go_wp2_with fail
    refine (part_any ⟨(cutZ l).toArray⟩ _ (by rw [Lib.size_eq]; show (cutZ l).length ≤ _; omega)).mono ?_
    rintro e w2 ⟨rfl, rfl⟩
    rw [show (ByteArray.mk (cutZ l).toArray).data.toList = cutZ l from rfl, (unhide HZ).1, (unhide HZ).2]
    go_wp2_with fail
    go_ret2
    exact ⟨ret_int2 (unhide H).1.symm (unhide H).2.symm, hb1⟩
  have H := hide (zRead_yes h1 h2)
  have HA : Hid (partN (cutA l) = num (cutA l) ∧ partB (cutA l) = true) := hide ⟨partN_yes h1, h1⟩
  have HZ : Hid (partN (cutZ l) = num (cutZ l) ∧ partB (cutZ l) = true) := hide ⟨partN_yes h2, h2⟩
  clear h1 h2
  go_enter Tryz.func64, Tryz.ntmps64
  go_wp2_with fail
  refine (cut_any l _ hl).mono ?_
  rintro e w1 ⟨b, rfl, hb1⟩
  go_wp2_with fail
  refine (part_any ⟨(cutA l).toArray⟩ _ (by rw [Lib.size_eq]; show (cutA l).length ≤ _; omega)).mono ?_
  rintro e w2 ⟨rfl, rfl⟩
  rw [show (ByteArray.mk (cutA l).toArray).data.toList = cutA l from rfl, (unhide HA).1, (unhide HA).2]
  go_wp2_with fail
  refine (part_any ⟨(cutZ l).toArray⟩ _ (by rw [Lib.size_eq]; show (cutZ l).length ≤ _; omega)).mono ?_
  rintro e w2 ⟨rfl, rfl⟩
  rw [show (ByteArray.mk (cutZ l).toArray).data.toList = cutZ l from rfl, (unhide HZ).1, (unhide HZ).2]
  go_wp2_with fail
  refine (zmake_any _ _ _).mono ?_
  rintro e w3 ⟨rfl, rfl⟩
  obtain ⟨X, hX⟩ : ∃ X, zMake (num (cutA l)) (num (cutZ l)) = X := ⟨_, rfl⟩
  obtain ⟨E, hE⟩ : ∃ E, zMakeE (num (cutA l)) (num (cutZ l)) = E := ⟨_, rfl⟩
  rw [hX, hE]
  rw [hX, hE] at H
  clear hX hE HA HZ
  go_wp2_with fail
  go_ret2
  exact ⟨ret_int2 (unhide H).1.symm (unhide H).2.symm, hb1⟩

end Go.Proofs.YtoacignhobchbaaGreatDoor

namespace Go.Proofs.YtoacignhobchbaaGreatDoor
open Go.RowKit

noncomputable def epochD (fs : List DF) : Int := zEpoch (zRead (readD fs epochN).1)
set_option maxRecDepth 10000 in
set_option maxHeartbeats 1000000 in
theorem sepoch_any (v : Value) (fs : List DF) (w : World) (hv : DiskV w v fs) (hs : Slim fs) :
    Calls Tryz.prog 28 #[.agg #[v]] w fun e w' => e = .returned (.int .i64 (epochD fs)) ∧ Below w.heap.size w w' := by
  have CR := fun W (h : DiskV W v fs) => read_any v fs epochN W h hs
  have hl := readD_len fs epochN
  unfold epochD
  generalize readD fs epochN = R at *
  obtain ⟨s, E⟩ := R
  simp only at CR hl ⊢
  simp only [show epochN.toArray = #[101, 112, 111, 99, 104] from rfl] at CR
  have CZ := fun W => zread_any s W (by omega)
  have CE := fun W => zepoch_any (zRead s) W
  generalize zRead s = z at *
  generalize zReadE s = ze at *
  have HV := hide hv
  obtain ⟨a, n, c, rfl⟩ := disk_slice hv
  clear hv hs hl
  go_enter Tryz.func28, Tryz.ntmps28
  go_wp2_with fail
  refine (CR _ ((unhide HV).next (allocB _ _))).mono ?_
  rintro e w1 ⟨rfl, hb1⟩
  have hB1 := nbox_then hb1
  clear hb1 CR
  go_wp2_with fail
  refine (CZ _).mono ?_
  rintro e w2 ⟨rfl, hb2⟩
  have hB2 := nnext hB1 hb2
  clear hb2 hB1 CZ
  go_wp2_with fail
  refine (CE _).mono ?_
  rintro e w3 ⟨rfl, rfl⟩
  go_wp2_with fail
  go_ret
  exact ⟨rfl, hB2⟩

end Go.Proofs.YtoacignhobchbaaGreatDoor

namespace Go.Proofs.YtoacignhobchbaaGreatDoor
open Go.RowKit

theorem below_next2 {a b c : World} (h : Below a.heap.size a b) (k : Below b.heap.size b c) : Below a.heap.size a c := h.trans (k.mono h.size)

set_option maxRecDepth 10000 in
set_option maxHeartbeats 400000 in
theorem last_any (v : Value) (ts : List WTxn) (w : World) (hv : LogV w v ts) :
    Calls Tryz.prog 66 #[v] w fun e w' => e = .returned (.int .i64 (lastZ ts)) ∧ w' = w := by
  by_cases h0 : ts.length = 0
  · obtain ⟨a, c, rfl⟩ := log_slice hv
    obtain rfl := List.length_eq_zero_iff.1 h0
    clear hv h0
    rw [lastZ_nil]
    go_enter Tryz.func66, Tryz.ntmps66
    go_wp2_with fail
    go_ret
    exact ⟨rfl, rfl⟩
  · obtain ⟨m, x, rfl⟩ := snoc_of h0
    have hi : (m ++ [x])[m.length]? = some x := by simp
    obtain ⟨b, off, cap, rfl, hb, hr, hlt, hc, hm⟩ := log_row hv hi
    have e := hr.z hi
    have hl : (m ++ [x]).length = m.length + 1 := by simp
    rw [lastZ_snoc, hl]
    simp only [maxLen] at hm
    rw [hl] at hc
    have hM : m.length < 9223372036854775807 := by omega
    clear hv h0 hr hi hl hlt hc hm
    generalize m.length = k at *
    go_enter Tryz.func66, Tryz.ntmps66
    go_wp2_with fail
    go_ret
    exact ⟨rfl, rfl⟩

end Go.Proofs.YtoacignhobchbaaGreatDoor

namespace Go.Proofs.YtoacignhobchbaaGreatDoor
open Go.RowKit

/-- of what there was, block g alone may have turned; nothing is new -/
structure Only (g : Nat) (w w' : World) : Prop where
  os : w'.os = w.os
  tape : w'.tape = w.tape
  output : w'.output = w.output
  size : w'.heap.size = w.heap.size
  block : ∀ k, k ≠ g → w'.heap[k]? = w.heap[k]?
theorem Only.refl (g : Nat) (w : World) : Only g w w := ⟨rfl, rfl, rfl, rfl, fun _ _ => rfl⟩
theorem Only.trans {g : Nat} {a b c : World} (h : Only g a b) (k : Only g b c) : Only g a c :=
  ⟨k.os.trans h.os, k.tape.trans h.tape, k.output.trans h.output, k.size.trans h.size, fun i hi => (k.block i hi).trans (h.block i hi)⟩
theorem Only.below {B g : Nat} {a w w' : World} (h : Only g w w') (hb : Below B a w) (hg : B ≤ g) : Below B a w' :=
  hb.trans ⟨h.os, h.tape, h.output, Nat.le_of_eq h.size.symm, fun k hk => h.block k (by omega)⟩
theorem Only.setCell {g : Nat} {a w : World} (h : Only g a w) (j : Nat) (v : Value) : Only g a (w.setCell ⟨g, j, none⟩ v) :=
  h.trans ⟨rfl, rfl, rfl, by simp [World.setCell], fun k hk => Below.heap_setCell _ _ _ _ hk⟩

/-- a cursor's two cells -/
def Cur (W : World) (g : Nat) (rest : List UInt8) (short : Bool) : Prop := W.heap[g]? = some (.cells #[.string ⟨rest.toArray⟩, .bool short] 204 (0, 0))
theorem Cur.c0 {W : World} {g : Nat} {r : List UInt8} {b : Bool} (h : Cur W g r b) : W.cell? ⟨g, 0, none⟩ = some (.string ⟨r.toArray⟩) := by unfold Cur at h; simp [World.cell?, h]
theorem Cur.c1 {W : World} {g : Nat} {r : List UInt8} {b : Bool} (h : Cur W g r b) : W.cell? ⟨g, 1, none⟩ = some (.bool b) := by unfold Cur at h; simp [World.cell?, h]
theorem Cur.f {W : World} {g : Nat} {r : List UInt8} {b : Bool} (h : Cur W g r b) (j : Nat) : W.frozen? ⟨g, j, none⟩ = false := by unfold Cur at h; simp [World.frozen?, h]
theorem cur_set {w : World} {g j : Nat} {cur : Array Value} {t : TypeId} {fz : Nat × Nat} (v : Value) (h : w.heap[g]? = some (.cells cur t fz)) :
    (w.setCell ⟨g, j, none⟩ v).heap[g]? = some (.cells (cur.setIfInBounds j v) t fz) := by
  obtain ⟨hlt, hk⟩ := Array.getElem?_eq_some_iff.1 h
  show (w.heap.modify g _)[g]? = _
  rw [Array.getElem?_eq_getElem (by rw [Array.size_modify]; exact hlt), Array.getElem_modify_self, hk]
  rfl
theorem Cur.s0 {W : World} {g : Nat} {r : List UInt8} {b : Bool} (h : Cur W g r b) (r' : List UInt8) : Cur (W.setCell ⟨g, 0, none⟩ (.string ⟨r'.toArray⟩)) g r' b := cur_set _ h
theorem Cur.s1 {W : World} {g : Nat} {r : List UInt8} {b : Bool} (h : Cur W g r b) (b' : Bool) : Cur (W.setCell ⟨g, 1, none⟩ (.bool b')) g r b' := cur_set _ h
theorem Cur.kept {W V : World} {g B : Nat} {r : List UInt8} {b : Bool} (h : Cur W g r b) (hb : Below B W V) (hg : g < B) : Cur V g r b := (hb.block _ hg).trans h
theorem Cur.other {W V : World} {g k : Nat} {r : List UInt8} {b : Bool} (h : Cur W g r b) (ho : Only k W V) (hg : g ≠ k) : Cur V g r b := (ho.block _ hg).trans h

/- numbers out of bytes, eight at most -/
end Go.Proofs.YtoacignhobchbaaGreatDoor

namespace Go.Proofs.YtoacignhobchbaaGreatDoor
open Go.RowKit

/- a transaction more at the end of a row of the call's own -/
theorem app_done {w W V : World} {B k c : Nat} {a : Option Addr} {ts : List WTxn} {t : WTxn} {O : Obj} {v' : Value} (hb : Below w.heap.size w W) (h : OwnL W B (.slice a k c) ts) (hB : w.heap.size ≤ B) (hk : ts.length = k)
    (hown : V.ownsRow B 53 7 v' (k + 1) (cellsT ts ++ tcells t)) (hg : (W.alloc O).grownBy V (Value.slice a k c).ownBlock) :
    ∃ a' c', v' = .slice a' (k + 1) c' ∧ OwnL V B (.slice a' (k + 1) c') (ts ++ [t]) ∧ Below w.heap.size w V := by
  subst hk
  have ho := OwnL.more hown
  obtain ⟨a', c', rfl⟩ := ownl_slice ho
  rw [List.length_append] at ho
  refine ⟨a', c', by rw [List.length_append]; rfl, ho, ?_⟩
  have h1 : Below w.heap.size w (W.alloc O) := hb.alloc hb.size O
  exact h1.grown hg h1.size fun q e => Nat.le_trans hB (ownl_block h q e).1

end Go.Proofs.YtoacignhobchbaaGreatDoor

namespace Go.Proofs.YtoacignhobchbaaGreatDoor
open Go.RowKit

def logN : List UInt8 := [108, 111, 103]
theorem named_log : namedB logN = true := by decide
def logF (ts : List WTxn) : DF := ⟨logN, recsL ts, []⟩
structure RecYes (fs : List DF) (ts : List WTxn) (A B : List DF) : Prop where
  good : GoodD fs
  log : Logs ts
  old : (fs.length < 16 ∧ Gap fs A B logN ∧ ts = []) ∨ ∃ f r, There fs A f B logN ∧ Scan (f.s ++ f.t) ts r
theorem RecYes.short {fs A B : List DF} {ts : List WTxn} (h : RecYes fs ts A B) : (recsL ts).length ≤ 1048576 := by
  rcases h.old with ⟨_, _, rfl⟩ | ⟨f, r, T, S⟩
  · simp [recsL]
  · have h1 := S.len
    have h2 := fileOk_len (T.ok h.good)
    rw [List.length_append] at h1
    omega
theorem RecYes.few {fs A B : List DF} {ts : List WTxn} (h : RecYes fs ts A B) : ts.length ≤ 40000 := by
  have h1 := h.short
  have h2 := recsL_ge ts
  omega
theorem RecYes.there {fs A B : List DF} {ts : List WTxn} (h : RecYes fs ts A B) (us : List WTxn) : There (A ++ logF us :: B) A (logF us) B logN := by
  rcases h.old with ⟨_, G, _⟩ | ⟨f, r, T, _⟩
  · exact G.ins rfl
  · exact T.set rfl
theorem RecYes.after {fs A B : List DF} {ts : List WTxn} (h : RecYes fs ts A B) {us : List WTxn} (hu : (recsL us).length ≤ 1048576) : GoodD (A ++ logF us :: B) := by
  have hl : (logF us).s.length + (logF us).t.length ≤ 1048576 := by simp [logF]; exact hu
  rcases h.old with ⟨h16, G, _⟩ | ⟨f, r, T, _⟩
  · exact good_ins h.good G named_log h16 rfl hl
  · have g := h.good
    rw [T.eq] at g
    exact good_set g T.nm.symm hl
/- a disk with the log alone -/
theorem gap_none (name : List UInt8) : Gap [] [] [] name := ⟨rfl, by simp, by simp⟩
theorem good_none : GoodD [] := ⟨by simp, by simp, List.Pairwise.nil⟩
theorem good_one {s t : List UInt8} (h : s.length + t.length ≤ 1048576) : GoodD [⟨logN, s, t⟩] :=
  good_ins good_none (gap_none logN) named_log (by simp) (f' := ⟨logN, s, t⟩) rfl h
theorem there_one (s t : List UInt8) : There [⟨logN, s, t⟩] [] ⟨logN, s, t⟩ [] logN := (gap_none logN).ins (f' := ⟨logN, s, t⟩) rfl
/- what is kept -/
end Go.Proofs.YtoacignhobchbaaGreatDoor
