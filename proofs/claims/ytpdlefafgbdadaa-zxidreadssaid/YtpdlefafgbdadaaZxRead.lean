/-
  What zxid.part and zxid.Read answer, for every text: the walks; strings.Cut at a separator of one byte beside them.
-/
import Derived.Test.YtpdlefafgbdadaaZxNum
import Derived.Test.YtpdlefafgbdadaaZxDig
import Derived.Test.YtpdlefafgbdadaaShelf
import Derived.WalkSmall
import Derived.RegionTactic
namespace Go.Proofs.Ytpdlefafgbdadaa
open Go.RowKit

theorem zsize_list (s : ByteArray) : s.data.toList.length = s.size := by simp
theorem ret_part {i j : Int} {a b : Bool} (h : i = j) (h' : a = b) : Ending.returned (.tuple #[.int .i64 i, .bool a]) = .returned (.tuple #[.int .i64 j, .bool b]) := by rw [h, h']
theorem zhead (s : ByteArray) (h : 0 < s.size) : s.data.toList.head? = some s[0] := by
  rw [List.head?_eq_getElem?, List.getElem?_eq_getElem (by simpa using h)]; rfl
theorem num_take (s : ByteArray) (k : Nat) (h : k < s.size) : num (s.data.toList.take (k + 1)) = 10 * num (s.data.toList.take k) + (s[k].toNat - 48) := by
  rw [take_snoc s k h, num_snoc]
theorem num_small (s : ByteArray) (k : Nat) (h : k < 10) (ha : (s.data.toList.take k).all isD = true) : num (s.data.toList.take k) < 1000000000 := by
  have h1 := num_lt _ ha
  have h2 : (s.data.toList.take k).length ≤ 9 := by rw [List.length_take]; omega
  have h3 : 10 ^ (s.data.toList.take k).length ≤ 10 ^ 9 := Nat.pow_le_pow_right (by decide) h2
  have h4 : (10 : Nat) ^ 9 = 1000000000 := by decide
  omega

set_option maxHeartbeats 400000 in
theorem part_any (s : ByteArray) (w : World) (hs : s.size ≤ 140737488355328) :
    Calls Try.prog 22 #[.string s] w fun e w' => e = .returned (.tuple #[.int .i64 (partN s.data.toList), .bool (partB s.data.toList)]) ∧ w' = w := by
  have hz := zsize_list s
  by_cases h1 : s.size < 1
  · have hp : partB s.data.toList = false := partB_no (by omega)
    have H := hide hp
    clear hp
    go_enter Try.func22, Try.ntmps22
    go_wp2
    go_ret2
    exact ⟨ret_part (partN_no (unhide H)).symm (unhide H).symm, rfl⟩
  by_cases h2 : 10 < s.size
  · have hp : partB s.data.toList = false := partB_no (by omega)
    have H := hide hp
    clear hp
    go_enter Try.func22, Try.ntmps22
    go_wp2
    go_ret2
    exact ⟨ret_part (partN_no (unhide H)).symm (unhide H).symm, rfl⟩
  have hhd := zhead s (by omega)
  have h0 : 0 < s.size := by omega
  by_cases h3 : 1 < s.size ∧ s[0] = 48
  · have hp : partB s.data.toList = false := partB_no (by
      rintro ⟨_, _, h, _⟩
      exact h (by omega) (by rw [hhd, h3.2]))
    have H := hide hp
    have h4 : ((s[0].toNat : Int) == 48) = true := by rw [h3.2]; rfl
    have h5 := h3.1
    clear hp h3 hhd
    go_enter Try.func22, Try.ntmps22
    go_wp2
    go_ret2
    exact ⟨ret_part (partN_no (unhide H)).symm (unhide H).symm, rfl⟩
  have Hok : Hid (s.data.toList.all isD = true → partB s.data.toList = true) := hide (fun h => partB_iff.2 ⟨by omega, by omega, fun hl e => h3 ⟨by omega, by rw [hhd] at e; exact Option.some.inj e⟩, h⟩)
  have Hno : Hid (s.data.toList.all isD = false → partB s.data.toList = false) := hide (fun h => partB_no (fun hh => by rw [h] at hh; exact absurd hh.2.2.2 (by decide)))
  have h4 : 1 < s.size → ((s[0].toNat : Int) == 48) = false := fun hl => by
    rw [beq_eq_false_iff_ne]
    intro e
    exact h3 ⟨hl, UInt8.toNat_inj.1 (by show s[0].toNat = 48; omega)⟩
  clear h3 hhd
  by_cases h5 : 1 < s.size
  · have h6 := h4 h5
    clear h4
    go_enter Try.func22, Try.ntmps22
    go_wp2
    clear h6
    go_loop [4, 26] (fun n i => ∃ k : Nat, k ≤ s.size ∧ i = .int .i64 k ∧ n = .int .i64 (num (s.data.toList.take k) : Int) ∧ (s.data.toList.take k).all isD = true) (fun _ i => s.size - (intOf i).toNat)
    case atStart => exact ⟨0, Nat.zero_le _, rfl, rfl, by simp⟩
    case round =>
      obtain ⟨k, hk, rfl, rfl, hall⟩ := hrel
      have Hall := hide hall
      by_cases hlt : k < s.size
      · have hsm := num_small s k (by omega) hall
        have Hnt := hide (num_take s k hlt)
        clear hall
        obtain ⟨n, hn⟩ : ∃ n, num (s.data.toList.take k) = n := ⟨_, rfl⟩
        rw [hn] at hsm Hnt ⊢
        clear hn
        by_cases hd : isD s[k] = true
        · have hd1 := (isD_iff.1 hd).1
          have hd2 := (isD_iff.1 hd).2
          have Hd := hide hd
          clear hd
          go_wp2
          go_round
          case rel => exact ⟨k + 1, by omega, by go_num, by rw [unhide Hnt]; go_num, all_take_succ s k hlt isD (unhide Hall) (unhide Hd)⟩
          case measure => simp [intOf]; omega
        · have hd' : isD s[k] = false := by simpa using hd
          have hp := unhide Hno (not_all_of s k hlt isD hd')
          have hq : s[k].toNat < 48 ∨ 57 < s[k].toNat := by
            by_cases hc : 48 ≤ s[k].toNat ∧ s[k].toNat ≤ 57
            · exact absurd (isD_iff.2 hc) hd
            · omega
          have H := hide hp
          clear hp hd hd'
          rcases hq with hq | hq
          · go_wp2
            go_ret2
            exact ⟨ret_part (partN_no (unhide H)).symm (unhide H).symm, rfl⟩
          · go_wp2
            go_ret2
            exact ⟨ret_part (partN_no (unhide H)).symm (unhide H).symm, rfl⟩
      · have hp := unhide Hok (all_of_size s k (by omega) isD hall)
        have H := hide hp
        have hkk : s.data.toList.take k = s.data.toList := List.take_of_length_le (by omega)
        rw [hkk]
        clear hp hall Hall hkk
        go_wp2
        go_ret2
        exact ⟨ret_part (partN_yes (unhide H)).symm (unhide H).symm, rfl⟩
  · clear h4
    go_enter Try.func22, Try.ntmps22
    go_wp2
    go_loop [4, 26] (fun n i => ∃ k : Nat, k ≤ s.size ∧ i = .int .i64 k ∧ n = .int .i64 (num (s.data.toList.take k) : Int) ∧ (s.data.toList.take k).all isD = true) (fun _ i => s.size - (intOf i).toNat)
    case atStart => exact ⟨0, Nat.zero_le _, rfl, rfl, by simp⟩
    case round =>
      obtain ⟨k, hk, rfl, rfl, hall⟩ := hrel
      have Hall := hide hall
      by_cases hlt : k < s.size
      · have hsm := num_small s k (by omega) hall
        have Hnt := hide (num_take s k hlt)
        clear hall
        obtain ⟨n, hn⟩ : ∃ n, num (s.data.toList.take k) = n := ⟨_, rfl⟩
        rw [hn] at hsm Hnt ⊢
        clear hn
        by_cases hd : isD s[k] = true
        · have hd1 := (isD_iff.1 hd).1
          have hd2 := (isD_iff.1 hd).2
          have Hd := hide hd
          clear hd
          go_wp2
          go_round
          case rel => exact ⟨k + 1, by omega, by go_num, by rw [unhide Hnt]; go_num, all_take_succ s k hlt isD (unhide Hall) (unhide Hd)⟩
          case measure => simp [intOf]; omega
        · have hd' : isD s[k] = false := by simpa using hd
          have hp := unhide Hno (not_all_of s k hlt isD hd')
          have hq : s[k].toNat < 48 ∨ 57 < s[k].toNat := by
            by_cases hc : 48 ≤ s[k].toNat ∧ s[k].toNat ≤ 57
            · exact absurd (isD_iff.2 hc) hd
            · omega
          have H := hide hp
          clear hp hd hd'
          rcases hq with hq | hq
          · go_wp2
            go_ret2
            exact ⟨ret_part (partN_no (unhide H)).symm (unhide H).symm, rfl⟩
          · go_wp2
            go_ret2
            exact ⟨ret_part (partN_no (unhide H)).symm (unhide H).symm, rfl⟩
      · have hp := unhide Hok (all_of_size s k (by omega) isD hall)
        have H := hide hp
        have hkk : s.data.toList.take k = s.data.toList := List.take_of_length_le (by omega)
        rw [hkk]
        clear hp hall Hall hkk
        go_wp2
        go_ret2
        exact ⟨ret_part (partN_yes (unhide H)).symm (unhide H).symm, rfl⟩

theorem index_hit {a b : List UInt8} (h : ∀ c ∈ a, c ≠ 46) : Lib.indexByte (a ++ 46 :: b) 46 = (a.length : Int) := by
  induction a with
  | nil => rfl
  | cons x a ih =>
    have hx : (x == 46) = false := by simpa using h x (by simp)
    have ih' := ih (fun c hc => h c (by simp [hc]))
    show Lib.indexByte (x :: (a ++ 46 :: b)) 46 = _
    rw [Lib.indexByte, if_neg (by simp [hx]), ih', if_neg (by simp)]
    simp
theorem index_miss {l : List UInt8} (h : ∀ c ∈ l, c ≠ 46) : Lib.indexByte l 46 = -1 := by
  induction l with
  | nil => rfl
  | cons x a ih =>
    have hx : (x == 46) = false := by simpa using h x (by simp)
    have ih' := ih (fun c hc => h c (by simp [hc]))
    rw [Lib.indexByte, if_neg (by simp [hx]), ih']
    rfl
theorem zba_eq {a : ByteArray} {l : List UInt8} (h : a.data.toList = l) : a = ⟨l.toArray⟩ := by rw [← h]
theorem ext_front (a b : List UInt8) : (ByteArray.mk (a ++ 46 :: b).toArray).extract 0 a.length = ⟨a.toArray⟩ := by
  apply zba_eq
  rw [← Lib.toList_data, Lib.extract_toList]
  show ((a ++ 46 :: b).drop 0).take (a.length - 0) = a
  simp
theorem ext_back (a b : List UInt8) (n : Nat) (hn : n = (a ++ 46 :: b).length) : (ByteArray.mk (a ++ 46 :: b).toArray).extract (a.length + 1) n = ⟨b.toArray⟩ := by
  subst hn
  apply zba_eq
  rw [← Lib.toList_data, Lib.extract_toList]
  show ((a ++ 46 :: b).drop (a.length + 1)).take ((a ++ 46 :: b).length - (a.length + 1)) = b
  rw [show (a ++ 46 :: b).drop (a.length + 1) = b from by simp]
  exact List.take_of_length_le (by simp; omega)
theorem ret_cut {a b c d : ByteArray} {x : Bool} (h : a = b) (h' : c = d) : Ending.returned (.tuple #[.string a, .string c, .bool x]) = .returned (.tuple #[.string b, .string d, .bool x]) := by rw [h, h']

set_option maxHeartbeats 400000 in
theorem cutlite_any (l : List UInt8) (w : World) (hl : l.length ≤ 140737488355328) :
    Calls Try.prog 24 #[.string ⟨l.toArray⟩, .string ⟨#[46]⟩] w fun e w' => ∃ b, e = .returned (.tuple #[.string ⟨(cutA l).toArray⟩, .string ⟨(cutZ l).toArray⟩, .bool b]) ∧ Below w.heap.size w w' := by
  have hz : (ByteArray.mk l.toArray).size = l.length := Lib.size_eq ⟨l.toArray⟩
  rcases dot_cases l with hd | ⟨a, b, rfl, hd⟩
  · have H := hide (cut_miss hd)
    have HI := hide (index_miss hd)
    clear hd
    go_enter Try.func24, Try.ntmps24
    go_wp2_with fail
    refine (Try.stringslite_Index_one ⟨l.toArray⟩ 46 _).mono ?_
    rintro e w1 ⟨rfl, rfl⟩
    rw [show Lib.indexByte (ByteArray.mk l.toArray).data.toList 46 = -1 from unhide HI]
    go_wp2_with fail
    go_ret3
    exact ⟨_, ret_cut (by rw [(unhide H).1]) (by rw [(unhide H).2]), Below.refl _ _⟩
  · have H := hide (cut_hit (b := b) hd)
    have HI := hide (index_hit (b := b) hd)
    have hlen : (a ++ 46 :: b).length = a.length + 1 + b.length := by simp; omega
    rw [hlen] at hz hl
    have HL := hide hlen
    have H1 := hide (ext_front a b)
    have H2 := hide (ext_back a b _ rfl)
    clear hd hlen
    obtain ⟨S, hS⟩ : ∃ S, (ByteArray.mk (a ++ 46 :: b).toArray) = S := ⟨_, rfl⟩
    rw [hS] at hz H1 H2 ⊢
    have HI' : Hid (Lib.indexByte S.data.toList 46 = (a.length : Int)) := hide (by rw [← hS]; exact unhide HI)
    have HE : Hid (S.extract (a.length + 1) (a.length + 1 + b.length) = ⟨b.toArray⟩) := hide (by rw [← unhide HL]; exact unhide H2)
    clear hS HI H2
    have c1 : (0 : Int) ≤ (a.length : Int) := by omega
    have c2 : (a.length : Int) ≤ (S.size : Int) := by omega
    have c3 : (0 : Int) ≤ (a.length : Int) + 1 := by omega
    have c4 : (a.length : Int) + 1 ≤ (S.size : Int) := by omega
    go_enter Try.func24, Try.ntmps24
    go_wp2_with fail
    refine (Try.stringslite_Index_one S 46 _).mono ?_
    rintro e w1 ⟨rfl, rfl⟩
    rw [unhide HI']
    go_wp2_with fail
    go_region
    go_wp2
    go_ret3
    exact ⟨_, ret_cut (by rw [(unhide H).1]; exact unhide H1) (by rw [(unhide H).2]; exact unhide HE), (Below.refl _ _).drew⟩

set_option maxHeartbeats 400000 in
theorem cut_any (l : List UInt8) (w : World) (hl : l.length ≤ 140737488355328) :
    Calls Try.prog 21 #[.string ⟨l.toArray⟩, .string ⟨#[46]⟩] w fun e w' => ∃ b, e = .returned (.tuple #[.string ⟨(cutA l).toArray⟩, .string ⟨(cutZ l).toArray⟩, .bool b]) ∧ Below w.heap.size w w' := by
  go_enter Try.func21, Try.ntmps21
  go_wp2_with fail
  refine (cutlite_any l _ hl).mono ?_
  rintro e w1 ⟨b, rfl, hb1⟩
  go_wp2_with fail
  go_ret3
  exact ⟨_, rfl, hb1⟩
theorem cut_len (l : List UInt8) : (cutA l).length ≤ l.length ∧ (cutZ l).length ≤ l.length := by
  constructor
  · exact (List.takeWhile_prefix _).length_le
  · rw [cutZ, List.length_drop]
    have := (List.dropWhile_suffix (l := l) (fun c => c != 46)).length_le
    omega

set_option maxHeartbeats 400000 in
theorem zread_any (l : List UInt8) (w : World) (hl : l.length ≤ 140737488355328) :
    Calls Try.prog 12 #[.string ⟨l.toArray⟩] w fun e w' => e = .returned (.tuple #[.int .i64 (zRead l), .int .i64 (zReadE l)]) ∧ Below w.heap.size w w' := by
  have hc := cut_len l
  have c1 := hc.1
  have c2 := hc.2
  clear hc
  cases h1 : partB (cutA l)
  · have H := hide (zRead_no (.inl h1))
    have HA : Hid (partN (cutA l) = 0 ∧ partB (cutA l) = false) := hide ⟨partN_no h1, h1⟩
    clear h1
    go_enter Try.func12, Try.ntmps12
    go_wp2_with fail
    refine (cut_any l _ hl).mono ?_
    rintro e w1 ⟨b, rfl, hb1⟩
    go_wp2_with fail
    refine (part_any ⟨(cutA l).toArray⟩ _ (by rw [Lib.size_eq]; show (cutA l).length ≤ _; omega)).mono ?_
    rintro e w2 ⟨rfl, rfl⟩
    rw [show (ByteArray.mk (cutA l).toArray).data.toList = cutA l from rfl, (unhide HA).1, (unhide HA).2]
    go_wp2_with fail
    refine (part_any ⟨(cutZ l).toArray⟩ _ (by rw [Lib.size_eq]; show (cutZ l).length ≤ _; omega)).mono ?_
    rintro e w2 ⟨rfl, rfl⟩
    rw [show (ByteArray.mk (cutZ l).toArray).data.toList = cutZ l from rfl]
    obtain ⟨B, hB⟩ : ∃ B, partB (cutZ l) = B := ⟨_, rfl⟩
    obtain ⟨M, hM⟩ : ∃ M, partN (cutZ l) = M := ⟨_, rfl⟩
    rw [hB, hM]
    clear hB hM HA
    go_wp2_with fail
    go_ret2
    exact ⟨ret_int2 (unhide H).1.symm (unhide H).2.symm, hb1⟩
  cases h2 : partB (cutZ l)
  · have H := hide (zRead_no (.inr h2))
    have HA : Hid (partN (cutA l) = num (cutA l) ∧ partB (cutA l) = true) := hide ⟨partN_yes h1, h1⟩
    have HZ : Hid (partN (cutZ l) = 0 ∧ partB (cutZ l) = false) := hide ⟨partN_no h2, h2⟩
    clear h1 h2
    go_enter Try.func12, Try.ntmps12
    go_wp2_with fail
    refine (cut_any l _ hl).mono ?_
    rintro e w1 ⟨b, rfl, hb1⟩
    go_wp2_with fail
    refine (part_any ⟨(cutA l).toArray⟩ _ (by rw [Lib.size_eq]; show (cutA l).length ≤ _; omega)).mono ?_
    rintro e w2 ⟨rfl, rfl⟩
    rw [show (ByteArray.mk (cutA l).toArray).data.toList = cutA l from rfl, (unhide HA).1, (unhide HA).2]
    go_wp2_with fail
    refine (part_any ⟨(cutZ l).toArray⟩ _ (by rw [Lib.size_eq]; show (cutZ l).length ≤ _; omega)).mono ?_
    rintro e w2 ⟨rfl, rfl⟩
    rw [show (ByteArray.mk (cutZ l).toArray).data.toList = cutZ l from rfl, (unhide HZ).1, (unhide HZ).2]
    go_wp2_with fail
    go_ret2
    exact ⟨ret_int2 (unhide H).1.symm (unhide H).2.symm, hb1⟩
  have H := hide (zRead_yes h1 h2)
  have HA : Hid (partN (cutA l) = num (cutA l) ∧ partB (cutA l) = true) := hide ⟨partN_yes h1, h1⟩
  have HZ : Hid (partN (cutZ l) = num (cutZ l) ∧ partB (cutZ l) = true) := hide ⟨partN_yes h2, h2⟩
  clear h1 h2
  go_enter Try.func12, Try.ntmps12
  go_wp2_with fail
  refine (cut_any l _ hl).mono ?_
  rintro e w1 ⟨b, rfl, hb1⟩
  go_wp2_with fail
  refine (part_any ⟨(cutA l).toArray⟩ _ (by rw [Lib.size_eq]; show (cutA l).length ≤ _; omega)).mono ?_
  rintro e w2 ⟨rfl, rfl⟩
  rw [show (ByteArray.mk (cutA l).toArray).data.toList = cutA l from rfl, (unhide HA).1, (unhide HA).2]
  go_wp2_with fail
  refine (part_any ⟨(cutZ l).toArray⟩ _ (by rw [Lib.size_eq]; show (cutZ l).length ≤ _; omega)).mono ?_
  rintro e w2 ⟨rfl, rfl⟩
  rw [show (ByteArray.mk (cutZ l).toArray).data.toList = cutZ l from rfl, (unhide HZ).1, (unhide HZ).2]
  go_wp2_with fail
  refine (zmake_any _ _ _).mono ?_
  rintro e w3 ⟨rfl, rfl⟩
  obtain ⟨X, hX⟩ : ∃ X, zMake (num (cutA l)) (num (cutZ l)) = X := ⟨_, rfl⟩
  obtain ⟨E, hE⟩ : ∃ E, zMakeE (num (cutA l)) (num (cutZ l)) = E := ⟨_, rfl⟩
  rw [hX, hE]
  rw [hX, hE] at H
  clear hX hE HA HZ
  go_wp2_with fail
  go_ret2
  exact ⟨ret_int2 (unhide H).1.symm (unhide H).2.symm, hb1⟩

end Go.Proofs.Ytpdlefafgbdadaa
