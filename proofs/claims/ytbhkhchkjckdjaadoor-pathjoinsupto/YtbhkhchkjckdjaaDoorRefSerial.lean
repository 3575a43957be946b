/-
  What aviaryref.decimal, Serial and Join answer: the walks.
-/
import Derived.Test.YtbhkhchkjckdjaaDoorRefGood
import Derived.Test.YtbhkhchkjckdjaaDoorSerial
import Derived.Lib.ItoaNum
namespace Go.Proofs.YtbhkhchkjckdjaaDoor
open Go.RowKit

theorem val_str {a b : ByteArray} (h : a = b) : Value.string a = .string b := by rw [h]
theorem cat_slash (d m : List UInt8) : (ByteArray.mk d.toArray) ++ (ByteArray.mk #[47]) ++ (ByteArray.mk m.toArray) = ⟨(d ++ [47] ++ m).toArray⟩ := by
  rw [show (ByteArray.mk d.toArray) ++ (ByteArray.mk #[47]) = ⟨(d ++ [47]).toArray⟩ from cat_one d [47], cat_one]
def lenS : Value → Nat
  | .string s => s.size
  | _ => 0
theorem lenS_pad (k : Nat) (D : List UInt8) : lenS (.string ⟨(List.replicate k 48 ++ D).toArray⟩) = k + D.length := by
  show (ByteArray.mk (List.replicate k 48 ++ D).toArray).size = _
  rw [Lib.size_eq]; show (List.replicate k 48 ++ D).length = _; simp
theorem dec_small {u : Nat} (h : u < 10) : Lib.decDigits u = [UInt8.ofNat (48 + u)] := by rw [Lib.decDigits, dif_pos h]
theorem dec_big {u : Nat} (h : ¬ u < 10) : Lib.decDigits u = Lib.decDigits (u / 10) ++ [UInt8.ofNat (48 + u % 10)] := by rw [Lib.decDigits, dif_neg h]
theorem dec_le (u : Nat) (h : u ≤ 2147483647) : (Lib.decDigits u).length ≤ 10 := by rw [Lib.decDigits_length]; exact nDigits_le_ten u h

theorem digit_string (w : World) (u : Nat) : (convert 35 9 (.slice (some ⟨w.heap.size, 0, none⟩) 1 1)).run Tryd.prog (w.alloc (.cells #[.int .u8 (48 + (u : Int) % 10)] 5)) = .ok (.string ⟨#[UInt8.ofNat (48 + u % 10)]⟩) (w.alloc (.cells #[.int .u8 (48 + (u : Int) % 10)] 5)) :=
  run_convert_bytes_back _ 35 9 5 ⟨w.heap.size, 0, none⟩ 1 [UInt8.ofNat (48 + u % 10)] Tryd.underlying35 Tryd.underlying5 Tryd.underlying9 (fun j hj => by
    obtain rfl : j = 0 := by simpa using hj
    have h : ((UInt8.ofNat (48 + u % 10)).toNat : Int) = 48 + (u : Int) % 10 := by
      rw [UInt8.toNat_ofNat']; omega
    show _ = some (Value.int .u8 ((UInt8.ofNat (48 + u % 10)).toNat : Int))
    rw [h]
    simp [Addr.add])

set_option maxHeartbeats 1000000 in
theorem decimal_any (u : Nat) : u ≤ 2147483647 → ∀ w : World,
    Calls Tryd.prog 33 #[.int .i64 u] w fun e w' => e = .returned (.string ⟨(Lib.decDigits u).toArray⟩) ∧ Below w.heap.size w w' := by
  induction u using Nat.strongRecOn with
  | _ u ih =>
    intro hu w
    have hds := digit_string w u
    by_cases h10 : u < 10
    · have Hd : Hid (Lib.decDigits u = [UInt8.ofNat (48 + u % 10)]) := hide (by rw [dec_small h10, Nat.mod_eq_of_lt h10])
      clear ih
      generalize UInt8.ofNat (48 + u % 10) = c at hds Hd
      go_enter Tryd.func33, Tryd.ntmps33
      go_wp2_with fail
      go_ret
      exact ⟨ret_str (by rw [unhide Hd]), (Below.refl _ _).alloc (Nat.le_refl _) _⟩
    · have Hd := hide (dec_big h10)
      have hrec := ih (u / 10) (by omega) (by omega)
      have hlen := dec_le (u / 10) (by omega)
      have Hrec := hide hrec
      clear hrec ih
      generalize UInt8.ofNat (48 + u % 10) = c at hds Hd
      go_enter Tryd.func33, Tryd.ntmps33
      go_wp2_with fail
      rw [show ((u : Int) / 10) = ((u / 10 : Nat) : Int) from by omega]
      refine (unhide Hrec _).mono ?_
      rintro e w1 ⟨rfl, hb1⟩
      clear Hrec
      generalize Lib.decDigits (u / 10) = D at *
      have hz : (ByteArray.mk D.toArray).size = D.length := Lib.size_eq ⟨D.toArray⟩
      go_wp2_with fail
      go_ret
      exact ⟨ret_str (by rw [unhide Hd]; exact cat_one D [c]), ((Below.refl _ w).alloc (Nat.le_refl _) _).trans (hb1.mono (by simp))⟩

theorem ten_pad (D : List UInt8) (n : Nat) (hn : n ≤ 2147483647) (hD : Lib.decDigits n = D) : List.replicate (10 - D.length) 48 ++ D = ten n := by
  have h := ten_eq n hn
  have hr : ∀ c, Lib.repeatL [48] c = List.replicate c 48 := fun c => by
    have := Lib.repeatL_replicate 48 1 c
    simpa using this
  rw [hr, hD] at h
  exact h

set_option maxHeartbeats 1000000 in
theorem refSerial_out (name : ByteArray) (n : Int) (w : World) (hn : n < 0 ∨ 2147483647 < n) :
    Calls Tryd.prog 20 #[.string name, .int .i64 n] w fun e w' => e = .returned (.tuple #[.string ⟨#[]⟩, .int .i64 3]) ∧ w' = w := by
  rcases hn with h | h
  · go_enter Tryd.func20, Tryd.ntmps20
    go_wp2_with fail
    go_ret2
    exact ⟨rfl, rfl⟩
  · have h' : ¬ n < 0 := by omega
    go_enter Tryd.func20, Tryd.ntmps20
    go_wp2_with fail
    go_ret2
    exact ⟨rfl, rfl⟩

set_option maxHeartbeats 1000000 in
theorem refSerial_in (l : List UInt8) (n : Nat) (w : World) (hn : n ≤ 2147483647) (hs : l.length ≤ 1048576) :
    Calls Tryd.prog 20 #[.string ⟨l.toArray⟩, .int .i64 n] w fun e w' =>
      e = .returned (.tuple #[.string (stepS (l ++ ten n)), .int .i64 (stepE (l ++ ten n))]) ∧ Below w.heap.size w w' := by
  have hz : (ByteArray.mk l.toArray).size = l.length := Lib.size_eq ⟨l.toArray⟩
  go_enter Tryd.func20, Tryd.ntmps20
  go_wp2_with fail
  refine (decimal_any n hn _).mono ?_
  rintro e w1 ⟨rfl, hb1⟩
  have hD10 := dec_le n hn
  generalize hD : Lib.decDigits n = D at *
  have Hten := hide (ten_pad D n hn hD)
  clear hD
  go_wp2_with fail
  go_loop [6] (fun t => ∃ k : Nat, k + D.length ≤ 10 ∧ t = .string ⟨(List.replicate k 48 ++ D).toArray⟩) (fun t => 10 - lenS t)
  case atStart => exact ⟨0, by omega, rfl⟩
  case round =>
    obtain ⟨k, hk, rfl⟩ := hrel
    have Hlen := hide (lenS_pad k D)
    have hzk : (ByteArray.mk (List.replicate k 48 ++ D).toArray).size = k + D.length := by rw [Lib.size_eq]; show (List.replicate k 48 ++ D).length = _; simp
    have Hnext : Hid ((ByteArray.mk #[48]) ++ (ByteArray.mk (List.replicate k 48 ++ D).toArray) = ⟨(List.replicate (k + 1) 48 ++ D).toArray⟩) := hide (by
      rw [show (ByteArray.mk #[48]) = ⟨[48].toArray⟩ from rfl, cat_one, List.replicate_succ]; rfl)
    by_cases hlt : k + D.length < 10
    · generalize hP : List.replicate k (48 : UInt8) ++ D = P at *
      go_wp2
      go_round
      case rel => exact ⟨k + 1, by omega, val_str (unhide Hnext)⟩
      case measure =>
        rw [unhide Hnext, lenS_pad, unhide Hlen]
        omega
    · have hk10 : k = 10 - D.length := by omega
      subst hk10
      rw [unhide Hten] at hzk Hlen Hnext ⊢
      have hT : (ByteArray.mk (ten n).toArray).size = 10 := by rw [Lib.size_eq]; exact ten_length n
      clear hzk Hlen Hnext Hten
      generalize hT1 : ten n = T at *
      go_wp2_with fail
      rw [cat_one l T]
      refine (refNamed_any (l ++ T) _ (by rw [← hT1]; simp [ten_length]; omega)).mono ?_
      rintro e w2 ⟨rfl, hb2⟩
      replace hb2 := below_next hb1 hb2
      have HT1 := hide hT1
      clear hb1 hT1
      cases hnm : namedB (l ++ T)
      · have Hn := hide hnm
        clear hnm
        go_wp2_with fail
        go_ret2
        exact ⟨ret_str2 (by rw [unhide HT1]; exact (stepS_no (unhide Hn)).symm) (by rw [unhide HT1]; exact (stepE_no (unhide Hn)).symm), hb2⟩
      · have Hn := hide hnm
        clear hnm
        go_wp2_with fail
        go_ret2
        exact ⟨ret_str2 (by rw [unhide HT1]; exact (cat_one l T).trans (stepS_yes (unhide Hn)).symm) (by rw [unhide HT1]; exact (stepE_yes (unhide Hn)).symm), hb2⟩

set_option maxHeartbeats 1000000 in
theorem refJoin_any (d m : List UInt8) (w : World) (hdl : d.length ≤ 1048576) (hm : m.length ≤ 1048576) :
    Calls Tryd.prog 18 #[.string ⟨d.toArray⟩, .string ⟨m.toArray⟩] w fun e w' => e = .returned (.tuple #[.string ⟨(joinS d m).toArray⟩, .int .i64 (joinE d m)]) ∧ Below w.heap.size w w' := by
  cases hd : goodB d
  · obtain ⟨h1, h2⟩ := join_bad (d := d) (m := m) (by rw [hd]; rfl)
    have H1 := hide h1
    have H2 := hide h2
    have Hd := hide hd
    clear h1 h2 hd
    go_enter Tryd.func18, Tryd.ntmps18
    go_wp2_with fail
    refine (refGood_any d _ hdl).mono ?_
    rintro e w1 ⟨rfl, hb1⟩
    rw [unhide Hd]
    go_wp2_with fail
    go_ret2
    exact ⟨ret_strE (by rw [unhide H1]) (unhide H2).symm, hb1⟩
  cases hn : namedB m
  · obtain ⟨h1, h2⟩ := join_bad (d := d) (m := m) (by rw [hn, Bool.and_false])
    have H1 := hide h1
    have H2 := hide h2
    have Hd := hide hd
    have Hn := hide hn
    clear h1 h2 hd hn
    go_enter Tryd.func18, Tryd.ntmps18
    go_wp2_with fail
    refine (refGood_any d _ hdl).mono ?_
    rintro e w1 ⟨rfl, hb1⟩
    rw [unhide Hd]
    go_wp2_with fail
    refine (refNamed_any m _ (by omega)).mono ?_
    rintro e w2 ⟨rfl, hb2⟩
    replace hb2 := below_next hb1 hb2
    clear hb1
    rw [unhide Hn]
    go_wp2_with fail
    go_ret2
    exact ⟨ret_strE (by rw [unhide H1]) (unhide H2).symm, hb2⟩
  have hd2 := goodB_le hd
  have hml := namedB_le hn
  have hdn : (goodB d && namedB m) = true := by rw [hd, hn]; rfl
  have Hd := hide hd
  have Hn := hide hn
  clear hd hn
  have hzm : (ByteArray.mk m.toArray).size = m.length := Lib.size_eq ⟨m.toArray⟩
  have hzd : (ByteArray.mk d.toArray).size = d.length := Lib.size_eq ⟨d.toArray⟩
  by_cases hr : d = [47]
  · subst hr
    obtain ⟨h1, h2⟩ := join_fits hdn (by rw [openL_root]; simp; omega)
    rw [openL_root] at h1
    have H1 := hide h1
    have H2 := hide h2
    clear h1 h2 hdn
    go_enter Tryd.func18, Tryd.ntmps18
    go_wp2_with fail
    refine (refGood_any [47] _ hdl).mono ?_
    rintro e w1 ⟨rfl, hb1⟩
    rw [unhide Hd]
    go_wp2_with fail
    refine (refNamed_any m _ (by omega)).mono ?_
    rintro e w2 ⟨rfl, hb2⟩
    replace hb2 := below_next hb1 hb2
    clear hb1
    rw [unhide Hn]
    go_wp2_with fail
    go_ret2
    exact ⟨ret_strE (by rw [unhide H1]; exact cat_one [47] m) (unhide H2).symm, hb2⟩
  · have hr1 : (d == [47]) = false := by simpa using hr
    have ho := openL_other hr
    clear hr
    by_cases hf : d.length + 1 + m.length ≤ 200
    · obtain ⟨h1, h2⟩ := join_fits hdn (by rw [ho]; simp; omega)
      rw [ho] at h1
      have H1 := hide h1
      have H2 := hide h2
      clear h1 h2 hdn ho
      go_enter Tryd.func18, Tryd.ntmps18
      go_wp2_with fail
      refine (refGood_any d _ hdl).mono ?_
      rintro e w1 ⟨rfl, hb1⟩
      rw [unhide Hd]
      go_wp2_with fail
      refine (refNamed_any m _ (by omega)).mono ?_
      rintro e w2 ⟨rfl, hb2⟩
      replace hb2 := below_next hb1 hb2
      clear hb1
      rw [unhide Hn]
      go_wp2_with fail
      go_ret2
      exact ⟨ret_strE (by rw [unhide H1]; exact cat_slash d m) (unhide H2).symm, hb2⟩
    · obtain ⟨h1, h2⟩ := join_long hdn (by rw [ho]; simp; omega)
      have H1 := hide h1
      have H2 := hide h2
      clear h1 h2 hdn ho
      go_enter Tryd.func18, Tryd.ntmps18
      go_wp2_with fail
      refine (refGood_any d _ hdl).mono ?_
      rintro e w1 ⟨rfl, hb1⟩
      rw [unhide Hd]
      go_wp2_with fail
      refine (refNamed_any m _ (by omega)).mono ?_
      rintro e w2 ⟨rfl, hb2⟩
      replace hb2 := below_next hb1 hb2
      clear hb1
      rw [unhide Hn]
      go_wp2_with fail
      go_ret2
      exact ⟨ret_strE (by rw [unhide H1]) (unhide H2).symm, hb2⟩

end Go.Proofs.YtbhkhchkjckdjaaDoor
