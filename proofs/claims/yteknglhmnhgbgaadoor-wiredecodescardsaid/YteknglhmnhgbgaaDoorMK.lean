/-
  What aviaryref.bytesOf and numberOf answer: the walks.
  What aviaryref.GoodTxn answers: the walk.
  What aviaryref.GoodTxn answers of what has a path: the walks.
-/
import Derived.Test.YteknglhmnhgbgaaDoorMC
import Derived.Test.YteknglhmnhgbgaaDoorMD
import Derived.Test.YteknglhmnhgbgaaDoorMB
import Derived.Test.YteknglhmnhgbgaaDoorMJ
import Derived.Deep.QuietTactic
import Derived.BigQuiet
namespace Go.Proofs.YteknglhmnhgbgaaDoor
open Go.RowKit

theorem one_text (c : UInt8) (W : World) (X : Nat) (h : W.cell? ⟨X, 0, none⟩ = some (.int .u8 (c.toNat : Int))) :
    (convert 51 9 (.slice (some ⟨X, 0, none⟩) 1 1)).run Tryd.prog W = .ok (.string ⟨#[c]⟩) W :=
  run_convert_bytes_back W 51 9 5 ⟨X, 0, none⟩ 1 [c] Tryd.underlying51 Tryd.underlying5 Tryd.underlying9 (fun j hj => by
    obtain rfl : j = 0 := by simpa using hj
    simpa [Addr.add] using h)

set_option maxHeartbeats 1000000 in
theorem bytesOf_any (n k : Nat) (w : World) (hn : n < 9223372036854775808) (hk : k ≤ 8) :
    Calls Tryd.prog 21 #[.int .i64 n, .int .i64 k] w fun e w' => e = .returned (.string ⟨(be k n).toArray⟩) ∧ Below w.heap.size w w' := by
  go_enter Tryd.func21, Tryd.ntmps21
  go_wp2
  go_loopw [0, 1, 5] (fun x i t wr => ∃ j : Nat, j ≤ k ∧ x = .int .i64 (n / 256 ^ j : Nat) ∧ i = .int .i64 ((k : Int) - j) ∧ t = .string ⟨(be j n).toArray⟩ ∧ Below w.heap.size w wr) (fun _ i _ _ => (intOf i).toNat)
  case atStart => exact ⟨0, Nat.zero_le _, by simp, by simp, rfl, Below.refl _ _⟩
  case round =>
    obtain ⟨j, hj, rfl, rfl, rfl, hB⟩ := hrel
    by_cases hlt : j < k
    · have hq : n / 256 ^ j < 9223372036854775808 := Nat.lt_of_le_of_lt (Nat.div_le_self _ _) hn
      have Hdiv := hide (div_256 n j)
      have Hby := hide (ofNat_mod (n / 256 ^ j))
      have Hfr := hide (be_front j n)
      have hbl := be_length j n
      obtain ⟨x, hx⟩ : ∃ x, n / 256 ^ j = x := ⟨_, rfl⟩
      obtain ⟨B, hB'⟩ : ∃ B, be j n = B := ⟨_, rfl⟩
      rw [hx] at hq Hdiv Hby Hfr ⊢
      rw [hB'] at Hfr hbl ⊢
      clear hx hB'
      have hzB : (ByteArray.mk B.toArray).size = B.length := Lib.size_eq ⟨_⟩
      have htx : ∀ W X, W.cell? ⟨X, 0, none⟩ = some (.int .u8 ((x : Int) % 256)) → (convert 51 9 (.slice (some ⟨X, 0, none⟩) 1 1)).run Tryd.prog W = .ok (.string ⟨#[UInt8.ofNat x]⟩) W := fun W X h => one_text (UInt8.ofNat x) W X (by rw [← unhide Hby]; exact h)
      have hkj : (0 : Int) < (k : Int) - j := by omega
      go_wp2
      refine ⟨⟨j + 1, by omega, i64_v (by rw [← unhide Hdiv]; omega), i64_v (by omega), ?_, hB.alloc hB.size _⟩, by simp only [intOf]; omega⟩
      rw [show (ByteArray.mk #[UInt8.ofNat x]) = ⟨[UInt8.ofNat x].toArray⟩ from rfl, cat_one, unhide Hfr]
      rfl
    · obtain rfl : j = k := by omega
      rw [show (j : Int) - (j : Int) = 0 from by omega]
      go_wp2
      go_ret
      exact ⟨rfl, hB⟩

theorem wrap_mul_add (t b : Nat) : wrap64 (wrap64 ((t : Int) * 256) + (b : Int)) = wrap64 ((t * 256 + b : Nat) : Int) := by unfold wrap64; omega

set_option maxHeartbeats 1000000 in
theorem numberOf_any (s : ByteArray) (w : World) (hs : s.size ≤ 8) :
    Calls Tryd.prog 35 #[.string s] w fun e w' => e = .returned (.int .i64 (wrap64 (un s.data.toList : Nat))) ∧ Below w.heap.size w w' := by
  obtain ⟨l, rfl⟩ := ba_list s
  show Calls _ _ _ _ fun e w' => e = .returned (.int .i64 (wrap64 (un l : Nat))) ∧ _
  have hz : (ByteArray.mk l.toArray).size = l.length := Lib.size_eq ⟨l.toArray⟩
  rw [hz] at hs
  have hconv : ∀ W s, (convert 9 51 (.string s)).run Tryd.prog W = .ok (.slice (some ⟨W.heap.size, 0, none⟩) s.size (grownCap W s.size 0 5)) (Lib.bytesWorld W 5 s) := fun W s =>
    Lib.run_convert_string_bytes W 9 51 5 s Tryd.underlying9 Tryd.underlying51 Tryd.underlying5
  go_enter Tryd.func35, Tryd.ntmps35
  go_wp2
  generalize hW1 : Lib.bytesWorld w 5 ⟨l.toArray⟩ = W1
  have Hcell : Hid (∀ j (hj : j < l.length), W1.cell? ⟨w.heap.size, j, none⟩ = some (.int .u8 (l[j].toNat : Int))) := hide (fun j hj => by
    rw [← hW1]; exact bytes_cell w 5 ⟨l.toArray⟩ l rfl j hj)
  have hB1 : Below w.heap.size w W1 := by rw [← hW1]; exact bytes_below _ _ _
  clear hW1 hconv
  go_loop [3, 9] (fun t i => ∃ k : Nat, k ≤ l.length ∧ i = .int .i64 k ∧ t = .int .i64 (wrap64 (un (l.take k) : Nat))) (fun _ i => l.length - (intOf i).toNat)
  case atStart => exact ⟨0, Nat.zero_le _, rfl, i64_c (by simp [un, wrap64])⟩
  case round =>
    obtain ⟨k, hk, rfl, rfl⟩ := hrel
    by_cases hlt : k < l.length
    · have hc := unhide Hcell k hlt
      have Hs := hide (un_take l k hlt)
      have hsm := un_small (l := l.take k) (by rw [List.length_take]; omega)
      obtain ⟨x, hx⟩ : ∃ x, un (l.take k) = x := ⟨_, rfl⟩
      rw [hx] at hsm Hs ⊢
      clear hx
      rw [show wrap64 (x : Int) = x from by unfold wrap64; omega]
      have hb := l[k].toNat_lt
      generalize l[k] = c at hc Hs hb
      go_wp2
      refine ⟨⟨k + 1, by omega, by go_num, i64_c ?_⟩, by simp [intOf]; omega⟩
      rw [unhide Hs, ← wrap_mul_add]
    · obtain rfl : k = l.length := by omega
      rw [List.take_length]
      go_wp2
      go_ret
      exact ⟨rfl, hB1⟩

end Go.Proofs.YteknglhmnhgbgaaDoor

namespace Go.Proofs.YteknglhmnhgbgaaDoor
open Go.RowKit

set_option maxHeartbeats 400000 in
theorem in_any (n k : Int) (w : World) :
    Calls Tryd.prog 26 #[.int .i64 n, .int .i64 k] w fun e w' => e = .returned (.bool (cntB n k)) ∧ w' = w := by
  go_enter Tryd.func26, Tryd.ntmps26
  go_wp2
  all_goals go_ret
  all_goals exact ⟨zret_bool (by rw [Bool.eq_iff_iff, cntB_iff]; simp; try omega), rfl⟩

theorem gd_of {t : WTxn} (h : opB t.o = true) (h1 : numB t = true) (h2 : t.d.length ≤ 256) : gdE t = if fmB t then 0 else 2 := by simp [gdE, h, h1, h2]

theorem drewN_below {w : World} {n : Nat} : Below w.heap.size w (w.drewN n) := ⟨rfl, rfl, rfl, Nat.le_refl _, fun _ _ => rfl⟩
theorem drawn_box {w : World} {o : Obj} {n : Nat} : Below w.heap.size w ((w.alloc o).drewN n) :=
  ((Below.refl _ _).alloc (Nat.le_refl _) _).trans (drewN_below.mono (by simp))
theorem drawn_then {w : World} {o : Obj} {n : Nat} {w2 : World} (h : Below ((w.alloc o).drewN n).heap.size ((w.alloc o).drewN n) w2) : Below w.heap.size w w2 :=
  below_next drawn_box h

set_option maxHeartbeats 1000000 in
theorem rgd_1 (z s : Int) (p d : List UInt8) (v u : Int) (w : World) (hz : z ≤ 9223372036854775807) (hd : d.length ≤ 256) (hn : numB ⟨z, 1, s, p, d, v, u⟩ = true) :
    Calls Tryd.prog 12 #[.agg #[.int .i64 z, .int .i64 1, .int .i64 s, .string ⟨p.toArray⟩, .string ⟨d.toArray⟩, .int .i64 v, .int .i64 u]] w fun e w' => e = .returned (.int .i64 (gdE ⟨z, 1, s, p, d, v, u⟩)) ∧ Below w.heap.size w w' := by
  have HG : Hid (gdE ⟨z, 1, s, p, d, v, u⟩ = if (p == [] && d == [] && v == 0 && u == 0) then 0 else 2) := hide (by rw [gd_of rfl hn hd, fm_1])
  obtain ⟨G, hG⟩ : ∃ G, gdE ⟨z, 1, s, p, d, v, u⟩ = G := ⟨_, rfl⟩
  rw [hG] at HG ⊢
  clear hG
  obtain ⟨h1, h2, h3, h4⟩ := numB_iff.1 hn
  have Hz := hide h1
  have Hs := hide h2
  have Hv := hide h3
  have Hu := hide h4
  clear h1 h2 h3 h4 hn
  have hzd : (ByteArray.mk d.toArray).size = d.length := Lib.size_eq ⟨d.toArray⟩
  go_enter Tryd.func12, Tryd.ntmps12
  go_wp2_with fail
  refine (rgood_any _ hz _).mono ?_
  rintro e w1 ⟨rfl, rfl⟩
  rw [unhide Hz]
  go_wp2_with fail
  refine (in_any _ _ _).mono ?_
  rintro e w1 ⟨rfl, rfl⟩
  rw [unhide Hs]
  go_wp2_with fail
  refine (in_any _ _ _).mono ?_
  rintro e w1 ⟨rfl, rfl⟩
  rw [unhide Hv]
  go_wp2_with fail
  refine (in_any _ _ _).mono ?_
  rintro e w1 ⟨rfl, rfl⟩
  rw [unhide Hu]
  go_wp2_with fail
  go_quiet (fail)
  go_wp2_with fail
  all_goals go_ret
  all_goals (refine ⟨ret_gd ?_, drawn_box⟩; rw [unhide HG]; clear HG Hz Hs Hv Hu; simp [*]; try (rename_i hl; simpa using hl))

set_option maxHeartbeats 1000000 in
theorem rgd_2 (z s : Int) (p d : List UInt8) (v u : Int) (w : World) (hz : z ≤ 9223372036854775807) (hd : d.length ≤ 256) (hn : numB ⟨z, 2, s, p, d, v, u⟩ = true) :
    Calls Tryd.prog 12 #[.agg #[.int .i64 z, .int .i64 2, .int .i64 s, .string ⟨p.toArray⟩, .string ⟨d.toArray⟩, .int .i64 v, .int .i64 u]] w fun e w' => e = .returned (.int .i64 (gdE ⟨z, 2, s, p, d, v, u⟩)) ∧ Below w.heap.size w w' := by
  have HG : Hid (gdE ⟨z, 2, s, p, d, v, u⟩ = if (p == [] && d == [] && v == 0 && u == 0) then 0 else 2) := hide (by rw [gd_of rfl hn hd, fm_2])
  obtain ⟨G, hG⟩ : ∃ G, gdE ⟨z, 2, s, p, d, v, u⟩ = G := ⟨_, rfl⟩
  rw [hG] at HG ⊢
  clear hG
  obtain ⟨h1, h2, h3, h4⟩ := numB_iff.1 hn
  have Hz := hide h1
  have Hs := hide h2
  have Hv := hide h3
  have Hu := hide h4
  clear h1 h2 h3 h4 hn
  have hzd : (ByteArray.mk d.toArray).size = d.length := Lib.size_eq ⟨d.toArray⟩
  go_enter Tryd.func12, Tryd.ntmps12
  go_wp2_with fail
  refine (rgood_any _ hz _).mono ?_
  rintro e w1 ⟨rfl, rfl⟩
  rw [unhide Hz]
  go_wp2_with fail
  refine (in_any _ _ _).mono ?_
  rintro e w1 ⟨rfl, rfl⟩
  rw [unhide Hs]
  go_wp2_with fail
  refine (in_any _ _ _).mono ?_
  rintro e w1 ⟨rfl, rfl⟩
  rw [unhide Hv]
  go_wp2_with fail
  refine (in_any _ _ _).mono ?_
  rintro e w1 ⟨rfl, rfl⟩
  rw [unhide Hu]
  go_wp2_with fail
  go_quiet (fail)
  go_wp2_with fail
  all_goals go_ret
  all_goals (refine ⟨ret_gd ?_, drawn_box⟩; rw [unhide HG]; clear HG Hz Hs Hv Hu; simp [*]; try (rename_i hl; simpa using hl))

end Go.Proofs.YteknglhmnhgbgaaDoor

namespace Go.Proofs.YteknglhmnhgbgaaDoor
open Go.RowKit

set_option maxHeartbeats 1000000 in
theorem rgd_3 (z s : Int) (p d : List UInt8) (v u : Int) (w : World) (hz : z ≤ 9223372036854775807) (hp : p.length ≤ 1048576) (hd : d.length ≤ 256) (hn : numB ⟨z, 3, s, p, d, v, u⟩ = true) :
    Calls Tryd.prog 12 #[.agg #[.int .i64 z, .int .i64 3, .int .i64 s, .string ⟨p.toArray⟩, .string ⟨d.toArray⟩, .int .i64 v, .int .i64 u]] w fun e w' => e = .returned (.int .i64 (gdE ⟨z, 3, s, p, d, v, u⟩)) ∧ Below w.heap.size w w' := by
  have HG : Hid (gdE ⟨z, 3, s, p, d, v, u⟩ = if (goodB p && !(p == [47]) && v == 0) then 0 else 2) := hide (by rw [gd_of rfl hn hd, fm_3])
  obtain ⟨G, hG⟩ : ∃ G, gdE ⟨z, 3, s, p, d, v, u⟩ = G := ⟨_, rfl⟩
  rw [hG] at HG ⊢
  clear hG
  obtain ⟨h1, h2, h3, h4⟩ := numB_iff.1 hn
  have Hz := hide h1
  have Hs := hide h2
  have Hv := hide h3
  have Hu := hide h4
  clear h1 h2 h3 h4 hn
  have hzd : (ByteArray.mk d.toArray).size = d.length := Lib.size_eq ⟨d.toArray⟩
  cases hg : goodB p
  all_goals
    have Hg := hide hg
    clear hg
    go_enter Tryd.func12, Tryd.ntmps12
    go_wp2_with fail
    refine (rgood_any _ hz _).mono ?_
    rintro e w1 ⟨rfl, rfl⟩
    rw [unhide Hz]
    go_wp2_with fail
    refine (in_any _ _ _).mono ?_
    rintro e w1 ⟨rfl, rfl⟩
    rw [unhide Hs]
    go_wp2_with fail
    refine (in_any _ _ _).mono ?_
    rintro e w1 ⟨rfl, rfl⟩
    rw [unhide Hv]
    go_wp2_with fail
    refine (in_any _ _ _).mono ?_
    rintro e w1 ⟨rfl, rfl⟩
    rw [unhide Hu]
    go_wp2_with fail
    go_quiet (fail)
    go_wp2_with fail
    all_goals
      refine (refGood_any p _ hp).mono ?_
      rintro e w2 ⟨rfl, hb2⟩
      have hbz : Below w.heap.size w w2 := drawn_then hb2
      obtain ⟨hc, hf⟩ := bcell hb2
      rw [unhide Hg]
      go_wp2_with fail
    all_goals go_ret
    all_goals (refine ⟨ret_gd ?_, by assumption⟩; rw [unhide HG, unhide Hg]; clear HG Hg Hz Hs Hv Hu; simp [*]; try (rename_i hl; simp [‹¬p = [47]›] at hl; exact hl))

end Go.Proofs.YteknglhmnhgbgaaDoor
