/-
  What comes of a good tree by Apply is a good one, of the transaction's number. No program is named here.
  Ten decimal digits: their length, their bytes, and that their order is the order of the numbers; no program is named here.
  What path.Serial answers, for every name and number: the walk.
  What path.Serial answers, for every name and every number, in one contract.
  Requests that are made ready, as plain data: what Prepare answers. No program is named here.
-/
import Derived.Test.YtcplpbelficbeaaGreatDoorRQD
import Derived.Test.YtcplpbelficbeaaGreatDoorRQA
import Derived.Lib.ItoaMem
import Derived.Lib.Repeat
import Derived.Test.YtcplpbelficbeaaGreatDoorRQB
import Derived.Test.YtcplpbelficbeaaGreatDoorShelf
import Derived.WalkSmall
namespace Go.Proofs.YtcplpbelficbeaaGreatDoor
open Go.RowKit

theorem fine_of {x : WTxn} (h : gdE x = 0) : Fine x := by
  obtain ⟨h1, h2, h3, h4⟩ := gdE_zero h
  obtain ⟨n1, n2, n3, n4⟩ := numB_iff.1 h2
  have o := opB_iff.1 h1
  have z := n1
  simp only [zGood, Bool.and_eq_true, decide_eq_true_eq] at z
  refine ⟨o, ⟨z.1, n1⟩, cntB_iff.1 n2, cntB_iff.1 n3, cntB_iff.1 n4, h3, ?_, ?_, ?_⟩
  · rintro (e | e)
    · simp [fmB, e] at h4
      exact ⟨h4.1.1, h4.1.2⟩
    · simp [fmB, e] at h4
      exact ⟨h4.1.1.1.1, h4.1.1.1.2⟩
  · intro e
    simp [fmB, e] at h4
    exact h4.1
  · intro e3 e5
    by_cases e4 : x.o = 4
    · simp [fmB, e4] at h4
      exact h4.1.1.2
    · simp [fmB, e3, e4, e5] at h4
      exact h4.1.1.2
theorem app_good {t : Tr} {x : WTxn} (h : appE t x = 0) : GoodT (appT t x) ∧ (appT t x).z = x.z ∧ t.z < x.z := by
  obtain ⟨ha, hc, hf⟩ := app_zero h
  obtain ⟨g, hg, hz, h1, h2⟩ := adm_zero ha
  have f := fine_of hg
  have hs := g.ses
  have gn : GoodN x.z t.ns t.ss := g.nod.mono (by omega)
  rw [appT, if_pos h]
  refine ⟨⟨f.z.2, ?_, ?_, fullN_false.1 hf⟩, rfl, hz⟩
  · show SAsc (chgS t x)
    rw [chgS]
    split
    · rename_i e; exact sasc_ins hs f.s (h1 e)
    · split
      · exact sasc_drop _ hs
      · exact hs
  · show GoodN x.z (chgN t x) (chgS t x)
    rw [chgN, chgS]
    by_cases e1 : x.o = 1
    · rw [if_neg (by omega), if_neg (by omega), if_neg (by omega), if_neg (by omega), if_pos e1]
      exact gn.more (fun n _ _ h => mem_insS h)
    · rw [if_neg e1]
      have hm := h2 e1
      by_cases e2 : x.o = 2
      · rw [if_pos e2, if_pos e2]
        have R := rest_owned gn (s := x.s) (by have := f.s; omega)
        refine (rmAll_good _ _ gn R).more (fun n hn h0 hi => ?_)
        rw [dropS]
        refine List.mem_filter.2 ⟨hi, ?_⟩
        simp only [decide_eq_true_eq]
        intro e
        obtain ⟨m, hm1, hm2, hm3, _, _, hm4⟩ := mem_rmAll _ _ n hn
        apply hm4
        rw [ownedP]
        exact List.mem_map.2 ⟨m, List.mem_filter.2 ⟨hm1, by simp only [decide_eq_true_eq]; rw [hm3, e]⟩, rfl⟩
      · rw [if_neg e2, if_neg e2]
        by_cases e3 : x.o = 3
        · rw [if_pos e3]
          rw [chgE, if_pos e3] at hc
          obtain ⟨c1, ⟨u, c2, c3⟩, c4, c5⟩ := cre_zero hc
          obtain ⟨A, B, G⟩ := gap_of_look g.nod.asc c1
          obtain ⟨p1, p2⟩ := f.path (.inl e3)
          have hu := lookN_some c2
          refine add_good (x := newN x) gn G (by have := g.nod.few; omega) p1 p2 ⟨u, hu.1, hu.2, c3⟩ f.d f.z.1 rfl rfl rfl rfl rfl rfl ?_
          rcases c4 with c | c
          · exact .inl c
          · exact .inr (by show x.w ∈ t.ss; rw [c]; exact hm)
        · rw [if_neg e3]
          by_cases e4 : x.o = 4
          · rw [if_pos e4]
            rw [chgE, if_neg e3, if_pos e4] at hc
            obtain ⟨n, c1, c2⟩ := del_zero hc
            obtain ⟨A, B, T⟩ := there_of_look g.nod.asc c1
            exact rm_good gn T c2 (f.path (.inr e4)).2
          · rw [if_neg e4]
            by_cases e5 : x.o = 5
            · rw [if_pos e5]
              exact set_good gn x.p x.d x.v f.d f.v (fun n hn => by have k := g.nod.ok n hn; have := k.cm; have := k.mz; omega)
            · have := f.op; omega

end Go.Proofs.YtcplpbelficbeaaGreatDoor

namespace Go.Proofs.YtcplpbelficbeaaGreatDoor
open Go.RowKit

/-- n in ten decimal digits, noughts ahead -/
def ten (n : Nat) : List UInt8 := (List.range 10).map fun t => Lib.dg n (9 - t)
theorem ten_length (n : Nat) : (ten n).length = 10 := by simp [ten]

theorem nDigits_le_ten (n : Nat) (h : n ≤ 2147483647) : Lib.nDigits n ≤ 10 := by
  have aux : ∀ k u, u < 10 ^ (k + 1) → Lib.nDigits u ≤ k + 1 := by
    intro k
    induction k with
    | zero => intro u hu; rw [Lib.nDigits_small (by simpa using hu)]; omega
    | succ k ih =>
      intro u hu
      by_cases h : u < 10
      · rw [Lib.nDigits_small h]; omega
      · rw [Lib.nDigits_big h]
        have := ih (u / 10) (by rw [Nat.pow_succ] at hu; omega)
        omega
  exact aux 9 n (by omega)

theorem dg_zero (u p : Nat) (h : u < 10 ^ p) : Lib.dg u p = 48 := by
  unfold Lib.dg
  rw [Nat.div_eq_of_lt h]
  rfl

theorem ten_eq (n : Nat) (h : n ≤ 2147483647) : Lib.repeatL [48] (10 - (Lib.decDigits n).length) ++ Lib.decDigits n = ten n := by
  have hd := nDigits_le_ten n h
  have hp := Lib.nDigits_pos n
  have hr : ∀ c, Lib.repeatL [48] c = List.replicate c 48 := fun c => by
    have := Lib.repeatL_replicate 48 1 c
    simpa using this
  rw [Lib.decDigits_length, hr, Lib.decDigits_eq]
  apply List.ext_getElem
  · simp [ten]; omega
  · intro i h1 h2
    have hi : i < 10 := by simpa [ten] using h2
    by_cases hc : i < 10 - Lib.nDigits n
    · rw [List.getElem_append_left (by simpa using hc)]
      simp only [List.getElem_replicate, ten, List.getElem_map, List.getElem_range]
      exact (dg_zero n (9 - i) (Nat.lt_of_lt_of_le (Lib.lt_pow_nDigits n) (Nat.pow_le_pow_right (by decide) (by omega)))).symm
    · rw [List.getElem_append_right (by simp; omega)]
      simp only [List.length_replicate, ten, List.getElem_map, List.getElem_range]
      congr 1
      omega

/-- the number that a list of digits means -/
def val : List UInt8 → Nat
  | [] => 0
  | c :: l => (c.toNat - 48) * 10 ^ l.length + val l
def isDig (c : UInt8) : Prop := 48 ≤ c.toNat ∧ c.toNat ≤ 57
theorem val_lt : ∀ l : List UInt8, (∀ c ∈ l, isDig c) → val l < 10 ^ l.length
  | [], _ => by simp [val]
  | c :: l, h => by
    have hc := h c (by simp)
    have ih := val_lt l (fun x hx => h x (by simp [hx]))
    have h9 : c.toNat - 48 ≤ 9 := by unfold isDig at hc; omega
    have hm : (c.toNat - 48) * 10 ^ l.length ≤ 9 * 10 ^ l.length := Nat.mul_le_mul_right _ h9
    simp only [val, List.length_cons, Nat.pow_succ]
    omega
theorem less_val : ∀ a b : List UInt8, a.length = b.length → (∀ c ∈ a, isDig c) → (∀ c ∈ b, isDig c) → (Op.bytesLess a b = true ↔ val a < val b)
  | [], [], _, _, _ => by simp [Op.bytesLess, val]
  | x :: a, y :: b, hl, ha, hb => by
    have hl' : a.length = b.length := by simpa using hl
    have hx := ha x (by simp)
    have hy := hb y (by simp)
    have ih := less_val a b hl' (fun c hc => ha c (by simp [hc])) (fun c hc => hb c (by simp [hc]))
    have va := val_lt a (fun c hc => ha c (by simp [hc]))
    have vb := val_lt b (fun c hc => hb c (by simp [hc]))
    unfold isDig at hx hy
    simp only [Op.bytesLess, val, hl', Bool.or_eq_true, Bool.and_eq_true, decide_eq_true_eq, beq_iff_eq, ih]
    rw [hl'] at va
    obtain ⟨P, hP⟩ : ∃ P, 10 ^ b.length = P := ⟨_, rfl⟩
    rw [hP] at va vb ⊢
    have hlt : (x < y) ↔ x.toNat < y.toNat := UInt8.lt_iff_toNat_lt
    have heq : (x = y) ↔ x.toNat = y.toNat := UInt8.toNat_inj.symm
    rw [hlt, heq]
    rcases Nat.lt_trichotomy x.toNat y.toNat with h | h | h
    · have hm : (x.toNat - 48 + 1) * P ≤ (y.toNat - 48) * P := Nat.mul_le_mul_right _ (by omega)
      rw [Nat.add_mul] at hm
      constructor
      · intro _; omega
      · intro _; exact .inl h
    · rw [h]
      constructor
      · rintro (h' | ⟨_, h'⟩) <;> omega
      · intro h'; exact .inr ⟨rfl, by omega⟩
    · have hm : (y.toNat - 48 + 1) * P ≤ (x.toNat - 48) * P := Nat.mul_le_mul_right _ (by omega)
      rw [Nat.add_mul] at hm
      constructor
      · rintro (h' | ⟨h', _⟩) <;> omega
      · intro h'; omega

theorem dg_toNat (u p : Nat) : (Lib.dg u p).toNat = 48 + u / 10 ^ p % 10 := by
  unfold Lib.dg
  simp only [UInt8.toNat_ofNat']
  omega
theorem ten_dig (n : Nat) : ∀ c ∈ ten n, isDig c := by
  intro c hc
  simp only [ten, List.mem_map] at hc
  obtain ⟨t, _, rfl⟩ := hc
  unfold isDig
  rw [dg_toNat]
  omega
theorem ten_letters (n : Nat) : (ten n).all letterB = true := by
  rw [List.all_eq_true]
  intro c hc
  have h := ten_dig n c hc
  unfold isDig at h
  simp [letterB, h.1, h.2]

theorem val_range (n : Nat) : ∀ k, val ((List.range k).map fun t => Lib.dg n (k - 1 - t)) = n % 10 ^ k
  | 0 => by simp [val, Nat.mod_one]
  | k + 1 => by
    have ih := val_range n k
    rw [List.range_succ_eq_map, List.map_cons, List.map_map]
    have e : ((List.range k).map ((fun t => Lib.dg n (k + 1 - 1 - t)) ∘ Nat.succ)) = (List.range k).map fun t => Lib.dg n (k - 1 - t) :=
      List.map_congr_left fun t _ => by simp only [Function.comp]; congr 1; omega
    simp only [val]
    rw [e, ih, dg_toNat, List.length_map, List.length_range, show k + 1 - 1 - 0 = k from by omega, Nat.pow_succ, Nat.mod_mul]
    rw [show 48 + n / 10 ^ k % 10 - 48 = n / 10 ^ k % 10 from by omega, Nat.mul_comm]
    omega
theorem val_ten (n : Nat) (h : n ≤ 2147483647) : val (ten n) = n := by
  have := val_range n 10
  unfold ten
  rw [show (fun t => Lib.dg n (9 - t)) = (fun t => Lib.dg n (10 - 1 - t)) from rfl, this]
  exact Nat.mod_eq_of_lt (by omega)

theorem less_prefix (p a b : List UInt8) : Op.bytesLess (p ++ a) (p ++ b) = Op.bytesLess a b := by
  induction p with
  | nil => rfl
  | cons x p ih => simp [Op.bytesLess, ih]
/-- THE ORDER OF TWO STEPS OF A SEQUENCE IS THE ORDER OF THEIR NUMBERS -/
theorem less_serial (p : List UInt8) (n m : Nat) (hn : n ≤ 2147483647) (hm : m ≤ 2147483647) : Op.bytesLess (p ++ ten n) (p ++ ten m) = decide (n < m) := by
  rw [less_prefix, Bool.eq_iff_iff, less_val _ _ (by simp [ten_length]) (ten_dig n) (ten_dig m), val_ten n hn, val_ten m hm]
  simp
end Go.Proofs.YtcplpbelficbeaaGreatDoor

namespace Go.Proofs.YtcplpbelficbeaaGreatDoor
open Go.RowKit

theorem below_grow (w : World) (k : Nat) (os : Array Obj) : Below w.heap.size w (Sort.grow (w.drewN k) os) :=
  ⟨rfl, rfl, rfl, by simp [Sort.grow, World.drewN], fun i hi => by simp [Sort.grow, World.drewN, Array.getElem?_append_left hi]⟩

theorem ret_str2 {a b : ByteArray} {i j : Int} (h : a = b) (h' : i = j) : Ending.returned (.tuple #[.string a, .int .i64 i]) = .returned (.tuple #[.string b, .int .i64 j]) := by rw [h, h']
theorem ba_eq {a : ByteArray} {l : List UInt8} (h : a.data.toList = l) : a = ⟨l.toArray⟩ := by
  rw [← h]

/-- what comes of a text that should be a step: itself and no error, or nothing and ErrForm -/
def stepS (l : List UInt8) : ByteArray := if namedB l then ⟨l.toArray⟩ else ⟨#[]⟩
def stepE (l : List UInt8) : Int := if namedB l then 0 else 2
theorem stepS_yes {l : List UInt8} (h : namedB l = true) : stepS l = ⟨l.toArray⟩ := by rw [stepS, if_pos h]
theorem stepE_yes {l : List UInt8} (h : namedB l = true) : stepE l = 0 := by rw [stepE, if_pos h]
theorem stepS_no {l : List UInt8} (h : namedB l = false) : stepS l = ⟨#[]⟩ := by rw [stepS, if_neg (by simp [h])]
theorem stepE_no {l : List UInt8} (h : namedB l = false) : stepE l = 2 := by rw [stepE, if_neg (by simp [h])]

theorem cat_data (name : ByteArray) (R D : List UInt8) : (name ++ ⟨R.toArray⟩ ++ ⟨D.toArray⟩ : ByteArray).data.toList = name.data.toList ++ (R ++ D) := by
  simp [ByteArray.data_append]
theorem cat_size (name : ByteArray) (R D : List UInt8) : (name ++ ⟨R.toArray⟩ ++ ⟨D.toArray⟩ : ByteArray).size = name.size + R.length + D.length := by
  rw [ByteArray.size_append, ByteArray.size_append]; rfl

set_option maxRecDepth 10000 in
set_option maxHeartbeats 400000 in
theorem serial_out (name : ByteArray) (n : Int) (w : World) (hn : n < 0 ∨ 2147483647 < n) :
    Calls Tryz.prog 72 #[.string name, .int .i64 n] w fun e w' => e = .returned (.tuple #[.string ⟨#[]⟩, .int .i64 3]) ∧ w' = w := by
  rcases hn with h | h
  · go_enter Tryz.func72, Tryz.ntmps72
    go_wp2_with fail
    go_ret2
    exact ⟨rfl, rfl⟩
  · have h' : ¬ n < 0 := by omega
    go_enter Tryz.func72, Tryz.ntmps72
    go_wp2_with fail
    go_ret2
    exact ⟨rfl, rfl⟩

set_option maxRecDepth 10000 in
set_option maxHeartbeats 400000 in
theorem serial_in (name : ByteArray) (n : Nat) (w : World) (hn : n ≤ 2147483647) (hs : name.size ≤ 140737488355328)
    (htab : Lib.TabIs Tryz.prog w "internal/strconv.uint64pow10" .u64 Lib.pow10Tab) :
    Calls Tryz.prog 72 #[.string name, .int .i64 n] w fun e w' =>
      e = .returned (.tuple #[.string (stepS (name.data.toList ++ ten n)), .int .i64 (stepE (name.data.toList ++ ten n))]) ∧ Below w.heap.size w w' := by
  have hd := nDigits_le_ten n hn
  have hp := Lib.nDigits_pos n
  have Hten := hide (ten_eq n hn)
  have Hit := hide (Lib.itoa_nonneg n)
  have Hlen := hide (Lib.decDigits_length n)
  go_enter Tryz.func72, Tryz.ntmps72
  go_wp2_with fail
  refine (Tryz.strconv_Itoa _ (by omega) (by omega) _ htab).mono ?_
  rintro e w1 ⟨rfl, k, os, hw1⟩
  have hb1 : Below w.heap.size w w1 := by rw [hw1]; exact below_grow w k os
  clear hw1
  rw [unhide Hit]
  generalize hD : Lib.decDigits n = D
  have hDl : D.length = Lib.nDigits n := by rw [← hD]; exact unhide Hlen
  have HD := hide hD
  clear hD
  have hD1 : 1 ≤ D.length := by omega
  have hD10 : D.length ≤ 10 := by omega
  clear hDl hd hp
  go_wp2_with fail
  rw [show (10 - (D.length : Int)) = ((10 - D.length : Nat) : Int) from by omega]
  refine (Tryz.strings_Repeat _ _ _ (by omega) (by show 1 * _ ≤ _; omega)).mono ?_
  rintro e w2 ⟨rfl, hb2⟩
  generalize hR : Lib.repeatL (ByteArray.mk #[48]).data.toList (10 - D.length) = R
  have hR' : Lib.repeatL [48] (10 - D.length) = R := hR
  have hRl : R.length ≤ 10 := by rw [← hR', Lib.repeatL_length]; simp
  have HR : Hid (R ++ D = ten n) := by
    have h1 := unhide Hten
    have h2 := unhide HD
    rw [h2, hR'] at h1
    exact h1
  clear hR hR' Hten HD Hit Hlen
  go_wp2_with fail
  generalize hX : (name ++ ⟨R.toArray⟩ ++ ⟨D.toArray⟩ : ByteArray) = X
  have HX : Hid (X.data.toList = name.data.toList ++ ten n) := by
    rw [← unhide HR, ← hX]; exact cat_data name R D
  have hXs : X.size ≤ maxLen := by
    unfold maxLen
    rw [← hX, cat_size]; omega
  clear hX HR
  refine (named_any X _ hXs).mono ?_
  rintro e w3 ⟨rfl, rfl⟩
  cases hnm : namedB X.data.toList
  · go_wp2_with fail
    go_ret2
    rw [unhide HX] at hnm
    exact ⟨ret_str2 (stepS_no hnm).symm (stepE_no hnm).symm, hb1.trans (hb2.mono hb1.size)⟩
  · go_wp2_with fail
    go_ret2
    rw [unhide HX] at hnm
    exact ⟨ret_str2 ((ba_eq (unhide HX)).trans (stepS_yes hnm).symm) (stepE_yes hnm).symm, hb1.trans (hb2.mono hb1.size)⟩

end Go.Proofs.YtcplpbelficbeaaGreatDoor

namespace Go.Proofs.YtcplpbelficbeaaGreatDoor
open Go.RowKit

/-- what Serial answers: the step, or nothing; and the error's number -/
def serS (l : List UInt8) (n : Int) : ByteArray := if 0 ≤ n ∧ n ≤ 2147483647 then stepS (l ++ ten n.toNat) else ⟨#[]⟩
def serE (l : List UInt8) (n : Int) : Int := if 0 ≤ n ∧ n ≤ 2147483647 then stepE (l ++ ten n.toNat) else 3

theorem serial_any (name : ByteArray) (n : Int) (w : World) (hs : name.size ≤ 140737488355328) (htab : Lib.TabIs Tryz.prog w "internal/strconv.uint64pow10" .u64 Lib.pow10Tab) :
    Calls Tryz.prog 72 #[.string name, .int .i64 n] w fun e w' =>
      e = .returned (.tuple #[.string (serS name.data.toList n), .int .i64 (serE name.data.toList n)]) ∧ Below w.heap.size w w' := by
  by_cases h : 0 ≤ n ∧ n ≤ 2147483647
  · obtain ⟨k, rfl⟩ := Int.eq_ofNat_of_zero_le h.1
    refine (serial_in name k w (by omega) hs htab).mono ?_
    rintro e w' ⟨rfl, hb⟩
    exact ⟨ret_str2 (by rw [serS, if_pos h, Int.toNat_natCast]) (by rw [serE, if_pos h, Int.toNat_natCast]), hb⟩
  · refine (serial_out name n w (by omega)).mono ?_
    rintro e w' ⟨rfl, rfl⟩
    exact ⟨ret_str2 (by rw [serS, if_neg h]) (by rw [serE, if_neg h]), Below.refl _ _⟩

theorem serE_ne {l : List UInt8} {n : Int} (h : serE l n ≠ 0) : serS l n = ⟨#[]⟩ := by
  unfold serE at h
  unfold serS
  by_cases h1 : 0 ≤ n ∧ n ≤ 2147483647
  · rw [if_pos h1] at h ⊢
    cases h2 : namedB (l ++ ten n.toNat)
    · exact stepS_no h2
    · exact absurd (stepE_yes h2) h
  · rw [if_neg h1]
theorem serE_eq {l : List UInt8} {n : Int} (h : serE l n = 0) : 0 ≤ n ∧ n ≤ 2147483647 ∧ namedB (l ++ ten n.toNat) = true ∧ serS l n = ⟨(l ++ ten n.toNat).toArray⟩ := by
  unfold serE at h
  unfold serS
  by_cases h1 : 0 ≤ n ∧ n ≤ 2147483647
  · rw [if_pos h1] at h ⊢
    cases h2 : namedB (l ++ ten n.toNat)
    · rw [stepE_no h2] at h; exact absurd h (by decide)
    · exact ⟨h1.1, h1.2, rfl, stepS_yes h2⟩
  · rw [if_neg h1] at h; exact absurd h (by decide)
theorem gPow : Tryz.prog.globalNamed "internal/strconv.uint64pow10" = some 3 := by kernel_rfl
theorem tab_lt {w : World} (htab : Lib.TabIs Tryz.prog w "internal/strconv.uint64pow10" .u64 Lib.pow10Tab) : 3 < w.heap.size := by
  have hc := htab.cell gPow 0 (by decide)
  unfold World.cell? at hc
  cases ho : w.heap[3]? with
  | none => simp [ho] at hc
  | some o => exact (Array.getElem?_eq_some_iff.1 ho).1
theorem tab_kept {w w' : World} (htab : Lib.TabIs Tryz.prog w "internal/strconv.uint64pow10" .u64 Lib.pow10Tab) (hb : Below w.heap.size w w') : Lib.TabIs Tryz.prog w' "internal/strconv.uint64pow10" .u64 Lib.pow10Tab :=
  var?_below hb gPow (tab_lt htab) htab

end Go.Proofs.YtcplpbelficbeaaGreatDoor

namespace Go.Proofs.YtcplpbelficbeaaGreatDoor
open Go.RowKit

structure Rq where
  o : Int
  s : Int
  p : List UInt8
  d : List UInt8
  v : Int
  f : Int
def rqV (r : Rq) : Value := .agg #[.int .i64 r.o, .int .i64 r.s, .string ⟨r.p.toArray⟩, .string ⟨r.d.toArray⟩, .int .i64 r.v, .int .i64 r.f]

/-- a step with its number behind it, or nothing -/
def serL (l : List UInt8) (n : Int) : List UInt8 := if serE l n = 0 then l ++ ten n.toNat else []
theorem serS_list (l : List UInt8) (n : Int) : serS l n = ⟨(serL l n).toArray⟩ := by
  by_cases h : serE l n = 0
  · rw [(serE_eq h).2.2.2, serL, if_pos h]
  · rw [serE_ne h, serL, if_neg h]
theorem serL_len (l : List UInt8) (n : Int) : (serL l n).length ≤ 40 := by
  by_cases h : serE l n = 0
  · obtain ⟨_, _, hn, _⟩ := serE_eq h
    rw [serL, if_pos h]
    simp only [namedB, Bool.and_eq_true, decide_eq_true_eq] at hn
    exact hn.1.2
  · rw [serL, if_neg h]; simp

/- OpDelete, OpSet -/
def fchE (t : Tr) (r : Rq) : Int := if goodB r.p = true then (if r.s ∈ t.ss then (match lookN t.ns r.p with
  | none => 7
  | some n => if r.v = -1 ∨ r.v = n.v then 0 else 9) else 12) else 2
def verN (t : Tr) (r : Rq) : Int := match lookN t.ns r.p with
  | none => 0
  | some n => n.v
def fchX (t : Tr) (z : Int) (r : Rq) : WTxn := ⟨z, r.o, r.s, r.p, if r.o = 5 then r.d else [], if r.o = 5 then verN t r + 1 else 0, 0⟩
theorem fch_form {t : Tr} {r : Rq} (h : goodB r.p = false) : fchE t r = 2 := by rw [fchE, if_neg (by simp [h])]
theorem fch_shut {t : Tr} {r : Rq} (h : goodB r.p = true) (hs : r.s ∉ t.ss) : fchE t r = 12 := by rw [fchE, if_pos h, if_neg hs]
theorem fch_none {t : Tr} {r : Rq} (h : goodB r.p = true) (hs : r.s ∈ t.ss) (hn : lookN t.ns r.p = none) : fchE t r = 7 := by rw [fchE, if_pos h, if_pos hs, hn]
theorem fch_some {t : Tr} {r : Rq} {n : Nd} (h : goodB r.p = true) (hs : r.s ∈ t.ss) (hn : lookN t.ns r.p = some n) : fchE t r = if r.v = -1 ∨ r.v = n.v then 0 else 9 := by rw [fchE, if_pos h, if_pos hs, hn]
theorem ver_some {t : Tr} {r : Rq} {n : Nd} (hn : lookN t.ns r.p = some n) : verN t r = n.v := by rw [verN, hn]
/- OpCreate -/
def cvN (t : Tr) (r : Rq) : Int := match lookN t.ns (dirOf r.p) with
  | none => 0
  | some u => u.k
def numE (t : Tr) (r : Rq) : Int := match lookN t.ns (dirOf r.p) with
  | none => 7
  | some u => if serE (stepOf r.p) u.k = 0 then joinE (dirOf r.p) (serL (stepOf r.p) u.k) else serE (stepOf r.p) u.k
def numP (t : Tr) (r : Rq) : List UInt8 := joinS (dirOf r.p) (serL (stepOf r.p) (cvN t r))
def fcrE (t : Tr) (r : Rq) : Int := if 0 ≤ r.f ∧ r.f ≤ 3 then (if goodB r.p = true ∧ r.p ≠ [47] then (if r.s ∈ t.ss then (if 2 ≤ r.f then numE t r else 0) else 12) else 2) else 3
def fcrX (t : Tr) (z : Int) (r : Rq) : WTxn := ⟨z, r.o, r.s, if 2 ≤ r.f then numP t r else r.p, r.d, 0, if r.f % 2 = 1 then r.s else 0⟩
theorem num_none {t : Tr} {r : Rq} (h : lookN t.ns (dirOf r.p) = none) : numE t r = 7 := by rw [numE, h]
theorem num_ser {t : Tr} {r : Rq} {u : Nd} (h : lookN t.ns (dirOf r.p) = some u) (h0 : serE (stepOf r.p) u.k ≠ 0) : numE t r = serE (stepOf r.p) u.k := by rw [numE, h]; simp only; rw [if_neg h0]
theorem num_join {t : Tr} {r : Rq} {u : Nd} (h : lookN t.ns (dirOf r.p) = some u) (h0 : serE (stepOf r.p) u.k = 0) : numE t r = joinE (dirOf r.p) (serL (stepOf r.p) u.k) := by rw [numE, h]; simp only; rw [if_pos h0]
theorem cv_some {t : Tr} {r : Rq} {u : Nd} (h : lookN t.ns (dirOf r.p) = some u) : cvN t r = u.k := by rw [cvN, h]
theorem fcr_range {t : Tr} {r : Rq} (h : ¬ (0 ≤ r.f ∧ r.f ≤ 3)) : fcrE t r = 3 := by rw [fcrE, if_neg h]
theorem fcr_form {t : Tr} {r : Rq} (h : 0 ≤ r.f ∧ r.f ≤ 3) (hp : ¬ (goodB r.p = true ∧ r.p ≠ [47])) : fcrE t r = 2 := by rw [fcrE, if_pos h, if_neg hp]
theorem fcr_shut {t : Tr} {r : Rq} (h : 0 ≤ r.f ∧ r.f ≤ 3) (hp : goodB r.p = true ∧ r.p ≠ [47]) (hs : r.s ∉ t.ss) : fcrE t r = 12 := by rw [fcrE, if_pos h, if_pos hp, if_neg hs]
theorem fcr_plain {t : Tr} {r : Rq} (h : 0 ≤ r.f ∧ r.f ≤ 3) (hp : goodB r.p = true ∧ r.p ≠ [47]) (hs : r.s ∈ t.ss) (hf : r.f < 2) : fcrE t r = 0 := by rw [fcrE, if_pos h, if_pos hp, if_pos hs, if_neg (by omega)]
theorem fcr_num {t : Tr} {r : Rq} (h : 0 ≤ r.f ∧ r.f ≤ 3) (hp : goodB r.p = true ∧ r.p ≠ [47]) (hs : r.s ∈ t.ss) (hf : 2 ≤ r.f) : fcrE t r = numE t r := by rw [fcrE, if_pos h, if_pos hp, if_pos hs, if_pos hf]
/- all kinds -/
def filE (t : Tr) (r : Rq) : Int := if r.o = 1 ∨ r.o = 2 then 0 else if r.o = 3 then fcrE t r else if r.o = 4 ∨ r.o = 5 then fchE t r else 4
def filX (t : Tr) (z : Int) (r : Rq) : WTxn := if r.o = 3 then fcrX t z r else if r.o = 4 ∨ r.o = 5 then fchX t z r else ⟨z, r.o, r.s, [], [], 0, 0⟩
theorem fil_end {t : Tr} {z : Int} {r : Rq} (h : r.o = 1 ∨ r.o = 2) : filE t r = 0 ∧ filX t z r = ⟨z, r.o, r.s, [], [], 0, 0⟩ := by
  refine ⟨by rw [filE, if_pos h], ?_⟩
  rw [filX, if_neg (by omega), if_neg (by omega)]
theorem fil_cre {t : Tr} {z : Int} {r : Rq} (h : r.o = 3) : filE t r = fcrE t r ∧ filX t z r = fcrX t z r := by
  refine ⟨by rw [filE, if_neg (by omega), if_pos h], by rw [filX, if_pos h]⟩
theorem fil_chg {t : Tr} {z : Int} {r : Rq} (h : r.o = 4 ∨ r.o = 5) : filE t r = fchE t r ∧ filX t z r = fchX t z r := by
  refine ⟨by rw [filE, if_neg (by omega), if_neg (by omega), if_pos h], by rw [filX, if_neg (by omega), if_pos h]⟩
theorem fil_kind {t : Tr} {r : Rq} (h : r.o < 1 ∨ 5 < r.o) : filE t r = 4 := by
  rw [filE, if_neg (by omega), if_neg (by omega), if_neg (by omega)]

noncomputable def headB (t : Tr) (z : Int) (r : Rq) : Bool := goodT t && zGood z && decide (1 ≤ r.s) && decide (r.s ≤ 2147483647)
noncomputable def prpE (t : Tr) (z : Int) (r : Rq) : Int := if headB t z r = true then (if filE t r = 0 then appE t (filX t z r) else filE t r) else 3
noncomputable def prpX (t : Tr) (z : Int) (r : Rq) : WTxn := if prpE t z r = 0 then filX t z r else t0
theorem headB_true {t : Tr} {z : Int} {r : Rq} : headB t z r = true ↔ GoodT t ∧ zGood z = true ∧ 1 ≤ r.s ∧ r.s ≤ 2147483647 := by
  simp only [headB, Bool.and_eq_true, decide_eq_true_eq, goodT_true, and_assoc]
theorem prp_head {t : Tr} {z : Int} {r : Rq} (h : headB t z r = false) : prpE t z r = 3 := by rw [prpE, if_neg (by simp [h])]
theorem prp_fill {t : Tr} {z : Int} {r : Rq} (h : headB t z r = true) (hf : filE t r ≠ 0) : prpE t z r = filE t r := by rw [prpE, if_pos h, if_neg hf]
theorem prp_app {t : Tr} {z : Int} {r : Rq} (h : headB t z r = true) (hf : filE t r = 0) : prpE t z r = appE t (filX t z r) := by rw [prpE, if_pos h, if_pos hf]
theorem prpX_no {t : Tr} {z : Int} {r : Rq} (h : prpE t z r ≠ 0) : prpX t z r = t0 := by rw [prpX, if_neg h]
theorem prpX_ok {t : Tr} {z : Int} {r : Rq} (h : prpE t z r = 0) : prpX t z r = filX t z r := by rw [prpX, if_pos h]
theorem filX_d (t : Tr) (z : Int) (r : Rq) : (filX t z r).d.length ≤ r.d.length := by
  unfold filX
  split
  · exact Nat.le_refl _
  · split
    · simp only [fchX]
      split
      · exact Nat.le_refl _
      · simp
    · simp
end Go.Proofs.YtcplpbelficbeaaGreatDoor
