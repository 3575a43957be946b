/-
  aviarykeep's pick and turned, of long texts: the walks.
  SnapTurned, SnapCut: the walks.
-/
import Derived.Test.YtmifdieofccjaaaDoorMJ
import Derived.RegionTactic
import Derived.Test.YtmifdieofccjaaaDoorMN
namespace Go.Proofs.YtmifdieofccjaaaDoor
open Go.RowKit

theorem ret_pick {a b : Int} (h : a = b) : Ending.returned (.int .i64 a) = .returned (.int .i64 b) := by rw [h]

theorem tmod_cases (k n : Int) (hn : 0 < n) : k.tmod n = k % n ∨ k.tmod n = k % n - n := by
  rw [Int.tmod_eq_emod]
  split
  · left; omega
  · right; omega

set_option maxHeartbeats 400000 in
theorem pick_any (k n : Int) (w : World) (hn : 0 < n) (hn1 : n ≤ 4611686018427387904) (hk : -9223372036854775808 ≤ k) (hk1 : k ≤ 9223372036854775807) :
    Calls Tryd.prog 21 #[.int .i64 k, .int .i64 n] w fun e w' => e = .returned (.int .i64 (k % n)) ∧ w' = w := by
  have hm1 := Int.emod_nonneg k (show n ≠ 0 by omega)
  have hm2 := Int.emod_lt_of_pos k hn
  by_cases h0 : 0 ≤ k
  · go_enter Tryd.func21, Tryd.ntmps21
    go_wp2
    go_ret
    exact ⟨rfl, rfl⟩
  · have HT := hide (tmod_cases k n hn)
    go_enter Tryd.func21, Tryd.ntmps21
    go_wp2
    all_goals go_ret
    all_goals refine ⟨ret_pick ?_, rfl⟩
    all_goals (have hT := unhide HT; clear HT; first | omega | (unfold wrap64; omega))

/-- a byte with some bits turned -/
def turnB (c : UInt8) (m : Nat) : UInt8 := UInt8.ofNat (c.toNat ^^^ m)
theorem turnB_nat (c : UInt8) (m : Nat) (hm : m < 256) : (turnB c m).toNat = c.toNat ^^^ m := by
  have hc := c.toNat_lt
  have : c.toNat ^^^ m < 2 ^ 8 := Nat.xor_lt_two_pow (by omega) (by omega)
  unfold turnB
  rw [UInt8.toNat_ofNat']
  omega
theorem turnB_ne (c : UInt8) (m : Nat) (hm : m < 256) (h0 : m ≠ 0) : turnB c m ≠ c := fun h => by
  have h1 := turnB_nat c m hm
  rw [h] at h1
  have h2 : c.toNat ^^^ 0 = c.toNat ^^^ m := by rw [Nat.xor_zero]; exact h1
  exact h0 (xor_cancel h2).symm
theorem xor_u8 (c : UInt8) (m : Nat) (hm : m < 256) : bits .xor .u8 (c.toNat : Int) (m : Int) = ((turnB c m).toNat : Int) := by
  have hc := c.toNat_lt
  rw [turnB_nat c m hm]
  exact bits_xor_nat .u8 8 (by decide) wraps_u8 _ _ (by omega) (by omega)
theorem one_byte (c : UInt8) (m : Nat) (hm : m < 256) (W : World) (X : Nat) (h : W.cell? ⟨X, 0, none⟩ = some (.int .u8 (bits .xor .u8 (c.toNat : Int) (m : Int)))) :
    (convert 66 9 (.slice (some ⟨X, 0, none⟩) 1 1)).run Tryd.prog W = .ok (.string ⟨#[turnB c m]⟩) W :=
  run_convert_bytes_back W 66 9 5 ⟨X, 0, none⟩ 1 [turnB c m] Tryd.underlying66 Tryd.underlying5 Tryd.underlying9 (fun j hj => by
    obtain rfl : j = 0 := by simpa using hj
    rw [xor_u8 c m hm] at h
    simpa [Addr.add] using h)

set_option maxHeartbeats 1000000 in
theorem turned_any (R : List UInt8) (i m : Nat) (w : World) (hR : R.length ≤ 70368744177664) (hi : i < R.length) (hm : m < 256) (h0 : m ≠ 0) :
    Calls Tryd.prog 20 #[.string ⟨R.toArray⟩, .int .i64 i, .int .u8 m] w fun e w' => e = .returned (.string ⟨(R.take i ++ turnB R[i] m :: R.drop (i + 1)).toArray⟩) ∧ Below w.heap.size w w' := by
  have hz : (ByteArray.mk R.toArray).size = R.length := Lib.size_eq ⟨R.toArray⟩
  have hib : i < (ByteArray.mk R.toArray).size := by rw [hz]; exact hi
  have hb2s := one_byte ((ByteArray.mk R.toArray)[i]'hib) m hm
  have c0 : (0 : Int) ≤ (i : Int) := by omega
  have c1 : (i : Int) ≤ (R.length : Int) := by omega
  have c2 : (i : Int) < (R.length : Int) := by omega
  have c3 : (0 : Int) ≤ (i : Int) + 1 := by omega
  have c4 : (i : Int) + 1 ≤ (R.length : Int) := by omega
  have hm0 : ((m : Int) == 0) = false := by rw [beq_eq_false_iff_ne]; omega
  go_enter Tryd.func20, Tryd.ntmps20
  go_wp2
  go_region
  clear hb2s
  rw [ba_get]
  go_wp2
  go_ret
  refine ⟨ret_str0 ?_, ((Below.refl _ _).alloc (Nat.le_refl _) _).drew⟩
  rw [ex_front, ex_back, show (ByteArray.mk #[turnB R[i] m]) = ⟨[turnB R[i] m].toArray⟩ from rfl, cat_two, cat_two]
  simp

set_option maxHeartbeats 1000000 in
theorem turned_zero (R : List UInt8) (i : Nat) (w : World) (hR : R.length ≤ 70368744177664) (hi : i < R.length) :
    Calls Tryd.prog 20 #[.string ⟨R.toArray⟩, .int .i64 i, .int .u8 0] w fun e w' => e = .returned (.string ⟨(R.take i ++ turnB R[i] 1 :: R.drop (i + 1)).toArray⟩) ∧ Below w.heap.size w w' := by
  have hz : (ByteArray.mk R.toArray).size = R.length := Lib.size_eq ⟨R.toArray⟩
  have hib : i < (ByteArray.mk R.toArray).size := by rw [hz]; exact hi
  have hb2s := one_byte ((ByteArray.mk R.toArray)[i]'hib) 1 (by decide)
  rw [show ((1 : Nat) : Int) = 1 from rfl] at hb2s
  have c0 : (0 : Int) ≤ (i : Int) := by omega
  have c1 : (i : Int) ≤ (R.length : Int) := by omega
  have c2 : (i : Int) < (R.length : Int) := by omega
  have c3 : (0 : Int) ≤ (i : Int) + 1 := by omega
  have c4 : (i : Int) + 1 ≤ (R.length : Int) := by omega
  go_enter Tryd.func20, Tryd.ntmps20
  go_wp2
  go_region
  clear hb2s
  rw [ba_get]
  go_wp2
  go_ret
  refine ⟨ret_str0 ?_, ((Below.refl _ _).alloc (Nat.le_refl _) _).drew⟩
  rw [ex_front, ex_back, show (ByteArray.mk #[turnB R[i] 1]) = ⟨[turnB R[i] 1].toArray⟩ from rfl, cat_two, cat_two]
  simp


/-- which bits are turned -/
def byN (b : Int) : Nat := if b = 0 then 1 else b.toNat
theorem turned_by (R : List UInt8) (i : Nat) (b : Int) (w : World) (hR : R.length ≤ 70368744177664) (hi : i < R.length) (hb0 : 0 ≤ b) (hb1 : b ≤ 255) :
    Calls Tryd.prog 20 #[.string ⟨R.toArray⟩, .int .i64 i, .int .u8 b] w fun e w' => e = .returned (.string ⟨(R.take i ++ turnB R[i] (byN b) :: R.drop (i + 1)).toArray⟩) ∧ Below w.heap.size w w' := by
  by_cases h : b = 0
  · subst h
    exact turned_zero R i w hR hi
  · have h1 := turned_any R i b.toNat w hR hi (by omega) (by omega)
    rw [Int.toNat_of_nonneg hb0] at h1
    rw [byN, if_neg h]
    exact h1
theorem byN_ok {b : Int} (hb0 : 0 ≤ b) (hb1 : b ≤ 255) : byN b < 256 ∧ byN b ≠ 0 := by
  unfold byN
  split
  · exact ⟨by decide, by decide⟩
  · omega

end Go.Proofs.YtmifdieofccjaaaDoor

namespace Go.Proofs.YtmifdieofccjaaaDoor
open Go.RowKit

set_option maxRecDepth 20000 in
set_option maxHeartbeats 4000000 in
theorem snapTurned_walk (t : Tr) (vn vs : Value) (k b : Int) (w : World) (hn : SeqV w vn t.ns) (hs : SeqV w vs t.ss) (hw : WfT t) (hl : t.ns.length * 88 ≤ 140737488355328) (hls : t.ss.length * 8 ≤ 140737488355328) (hk : -9223372036854775808 ≤ k ∧ k ≤ 9223372036854775807) (hb : 0 ≤ b ∧ b ≤ 255) :
    Calls Tryd.prog 7 #[.agg #[.int .i64 t.z, vn, vs], .int .i64 k, .int .u8 b] w fun e w' => e = .returned (.bool true) ∧ Below w.heap.size w w' := by
  have CO := hide (fun W (hW : Below w.heap.size w W) => own_any t vn vs W (hn.next hW) (hs.next hW) hl hls)
  have CW := hide (fun (W : World) (vn vs : Value) (hn : SeqV W vn t.ns) (hs : SeqV W vs t.ss) => swrite_any t vn vs W hn hs hw)
  unfold GivesT at CO
  obtain ⟨na, nc, rfl⟩ := seq_slice hn
  obtain ⟨sa, sc, rfl⟩ := seq_slice hs
  clear hn hs
  cases hg : goodT t with
  | false =>
    rw [(wr_bad hg).1, (wr_bad hg).2] at CW
    go_enter Tryd.func7, Tryd.ntmps7
    go_wp2_with fail
    refine (unhide CO _ (allocB _ _)).mono ?_
    rintro e w1 ⟨vn1, vs1, rfl, n1, s1, hb1⟩
    have N1 := hide n1.seq
    have S1 := hide s1.seq
    have B1 := hide (nbox_then hb1)
    clear n1 s1 hb1 CO
    go_wp2_with fail
    refine (unhide CW _ _ _ (unhide N1) (unhide S1)).mono ?_
    rintro e w2 ⟨rfl, hb2⟩
    have B2 := hide (nnext (unhide B1) hb2)
    clear hb2 N1 S1 B1 CW
    go_wp2_with fail
    refine (snaps_true _).mono ?_
    rintro e w4 ⟨rfl, hb4⟩
    have B4 := hide (nnext (unhide B2) hb4)
    clear hb4 B2
    go_wp2_with fail
    go_ret
    exact ⟨rfl, unhide B4⟩
  | true =>
    have g := goodT_true.1 hg
    rw [(wr_good g).1, (wr_good g).2] at CW
    have lb := bod_len g
    have ls := snap_len t
    have hm1 := Int.emod_nonneg k (show ((snapL t).length : Int) - 1 ≠ 0 by omega)
    have hm2 := Int.emod_lt_of_pos k (show (0 : Int) < ((snapL t).length : Int) - 1 by omega)
    obtain ⟨j, hj⟩ : ∃ j : Nat, k % (((snapL t).length : Int) - 1) = j := ⟨(k % (((snapL t).length : Int) - 1)).toNat, by omega⟩
    have hjl : 1 + j < (snapL t).length := by omega
    obtain ⟨hy1, hy2⟩ := byN_ok hb.1 hb.2
    have h5 := rd_turned (t := t) (i := 1 + j) (by omega) hjl (turnB_ne (snapL t)[1 + j] (byN b) hy1 hy2)
    have CT : Hid (∀ W, Calls Tryd.prog 20 #[.string ⟨(snapL t).toArray⟩, .int .i64 (1 + (j : Int)), .int .u8 b] W fun e w' => e = .returned (.string ⟨((snapL t).take (1 + j) ++ turnB (snapL t)[1 + j] (byN b) :: (snapL t).drop (1 + j + 1)).toArray⟩) ∧ Below W.heap.size W w') := hide (fun W => by
      have h := turned_by (snapL t) (1 + j) b W (by omega) hjl hb.1 hb.2
      rw [show ((1 + j : Nat) : Int) = 1 + (j : Int) by omega] at h
      exact h)
    have CP := hide (fun W => pick_any k (((snapL t).length : Int) - 1) W (by omega) (by omega) hk.1 hk.2)
    rw [hj] at CP
    obtain ⟨C, hC⟩ : ∃ C, (snapL t).take (1 + j) ++ turnB (snapL t)[1 + j] (byN b) :: (snapL t).drop (1 + j + 1) = C := ⟨_, rfl⟩
    have hCl : C.length = (snapL t).length := by rw [← hC, List.length_append, List.length_cons, List.length_take, List.length_drop]; omega
    rw [hC] at h5 CT
    have CR := hide (fun W => sread_any C W (by omega))
    unfold ReadG at CR
    rw [h5, rd_none (by rw [h5]; decide)] at CR
    have hjb : 1 + (j : Int) < 9223372036854775807 := by omega
    obtain ⟨L, hL⟩ : ∃ L : Nat, (snapL t).length = L := ⟨_, rfl⟩
    have hzS : (ByteArray.mk (snapL t).toArray).size = L := (Lib.size_eq ⟨(snapL t).toArray⟩).trans hL
    rw [hL] at CP ls
    have hL1 : L ≤ 17179869190 := by omega
    have hL2 : 5 ≤ L := by omega
    obtain ⟨S, hS⟩ : ∃ S, snapL t = S := ⟨_, rfl⟩
    simp only [hS] at CW CT hzS
    clear hC h5 hCl hS hg g hm1 hm2 hj hy1 hy2 hjl hL ls lb
    go_enter Tryd.func7, Tryd.ntmps7
    go_wp2_with fail
    refine (unhide CO _ (allocB _ _)).mono ?_
    rintro e w1 ⟨vn1, vs1, rfl, n1, s1, hb1⟩
    have N1 := hide n1.seq
    have S1 := hide s1.seq
    have B1 := hide (nbox_then hb1)
    clear n1 s1 hb1 CO
    go_wp2_with fail
    refine (unhide CW _ _ _ (unhide N1) (unhide S1)).mono ?_
    rintro e w2 ⟨rfl, hb2⟩
    have B2 := hide (nnext (unhide B1) hb2)
    clear hb2 N1 S1 B1 CW
    go_wp2_with fail
    refine (snaps_true _).mono ?_
    rintro e w3 ⟨rfl, hb3⟩
    have B3 := hide (nnext (unhide B2) hb3)
    clear hb3 B2
    go_wp2_with fail
    refine (unhide CP _).mono ?_
    rintro e w4 ⟨rfl, rfl⟩
    clear CP
    go_wp2_with fail
    refine (unhide CT _).mono ?_
    rintro e w5 ⟨rfl, hb5⟩
    have B5 := hide (nnext (unhide B3) hb5)
    clear hb5 CT B3
    go_wp2_with fail
    refine (unhide CR _).mono ?_
    rintro e w6 ⟨vn1, vs1, rfl, n1, s1, hb6⟩
    obtain ⟨an, cn, rfl, _⟩ := n1.slice
    obtain ⟨ai, ci, rfl, _⟩ := s1.slice
    have B6 := hide (nnext (nnext (unhide B5) hb6) (allocB w6 (.cells #[.int .i64 0, .slice an 0 cn, .slice ai 0 ci] 25)))
    have z1 : tr0.ns.length = 0 := rfl
    have z2 : tr0.ss.length = 0 := rfl
    have z3 : tr0.z = 0 := rfl
    rw [z1, z2, z3]
    clear n1 s1 hb6 CR
    go_wp2_with fail
    go_ret
    exact ⟨rfl, unhide B6⟩

set_option maxRecDepth 20000 in
set_option maxHeartbeats 4000000 in
theorem snapCut_walk (t : Tr) (vn vs : Value) (k : Int) (w : World) (hn : SeqV w vn t.ns) (hs : SeqV w vs t.ss) (hw : WfT t) (hl : t.ns.length * 88 ≤ 140737488355328) (hls : t.ss.length * 8 ≤ 140737488355328) (hk : -9223372036854775808 ≤ k ∧ k ≤ 9223372036854775807) :
    Calls Tryd.prog 8 #[.agg #[.int .i64 t.z, vn, vs], .int .i64 k] w fun e w' => e = .returned (.bool true) ∧ Below w.heap.size w w' := by
  have CO := hide (fun W (hW : Below w.heap.size w W) => own_any t vn vs W (hn.next hW) (hs.next hW) hl hls)
  have CW := hide (fun (W : World) (vn vs : Value) (hn : SeqV W vn t.ns) (hs : SeqV W vs t.ss) => swrite_any t vn vs W hn hs hw)
  unfold GivesT at CO
  obtain ⟨na, nc, rfl⟩ := seq_slice hn
  obtain ⟨sa, sc, rfl⟩ := seq_slice hs
  clear hn hs
  cases hg : goodT t with
  | false =>
    rw [(wr_bad hg).1, (wr_bad hg).2] at CW
    go_enter Tryd.func8, Tryd.ntmps8
    go_wp2_with fail
    refine (unhide CO _ (allocB _ _)).mono ?_
    rintro e w1 ⟨vn1, vs1, rfl, n1, s1, hb1⟩
    have N1 := hide n1.seq
    have S1 := hide s1.seq
    have B1 := hide (nbox_then hb1)
    clear n1 s1 hb1 CO
    go_wp2_with fail
    refine (unhide CW _ _ _ (unhide N1) (unhide S1)).mono ?_
    rintro e w2 ⟨rfl, hb2⟩
    have B2 := hide (nnext (unhide B1) hb2)
    clear hb2 N1 S1 B1 CW
    go_wp2_with fail
    refine (snaps_true _).mono ?_
    rintro e w4 ⟨rfl, hb4⟩
    have B4 := hide (nnext (unhide B2) hb4)
    clear hb4 B2
    go_wp2_with fail
    go_ret
    exact ⟨rfl, unhide B4⟩
  | true =>
    have g := goodT_true.1 hg
    rw [(wr_good g).1, (wr_good g).2] at CW
    have lb := bod_len g
    have ls := snap_len t
    have hm1 := Int.emod_nonneg k (show ((snapL t).length : Int) ≠ 0 by omega)
    have hm2 := Int.emod_lt_of_pos k (show (0 : Int) < ((snapL t).length : Int) by omega)
    obtain ⟨j, hj⟩ : ∃ j : Nat, k % ((snapL t).length : Int) = j := ⟨(k % ((snapL t).length : Int)).toNat, by omega⟩
    have hjl : j < (snapL t).length := by omega
    have h0 := rd_cut g hjl
    have CP := hide (fun W => pick_any k ((snapL t).length : Int) W (by omega) (by omega) hk.1 hk.2)
    rw [hj] at CP
    have CR := hide (fun W => sread_any ((snapL t).take j) W (by rw [List.length_take]; omega))
    unfold ReadG at CR
    rw [rd_none h0] at CR
    have hEb : (rdE ((snapL t).take j) != 0) = true := by simpa using h0
    obtain ⟨E, hE⟩ : ∃ E, rdE ((snapL t).take j) = E := ⟨_, rfl⟩
    rw [hE] at CR hEb
    obtain ⟨L, hL⟩ : ∃ L : Nat, (snapL t).length = L := ⟨_, rfl⟩
    have hzS : (ByteArray.mk (snapL t).toArray).size = L := (Lib.size_eq ⟨(snapL t).toArray⟩).trans hL
    rw [hL] at CP ls hjl
    have hL1 : L ≤ 17179869190 := by omega
    have hL2 : 5 ≤ L := by omega
    have i0 : (0 : Int) ≤ (j : Int) := by omega
    have i1 : (j : Int) ≤ (L : Int) := by omega
    obtain ⟨S, hS⟩ : ∃ S, snapL t = S := ⟨_, rfl⟩
    have hxj : (ByteArray.mk S.toArray).extract 0 j = ⟨(S.take j).toArray⟩ := ex_front S j
    rw [hS] at CW CR hzS
    clear h0 hE hS hg g hm1 hm2 hj hjl hL ls lb
    go_enter Tryd.func8, Tryd.ntmps8
    go_wp2_with fail
    refine (unhide CO _ (allocB _ _)).mono ?_
    rintro e w1 ⟨vn1, vs1, rfl, n1, s1, hb1⟩
    have N1 := hide n1.seq
    have S1 := hide s1.seq
    have B1 := hide (nbox_then hb1)
    clear n1 s1 hb1 CO
    go_wp2_with fail
    refine (unhide CW _ _ _ (unhide N1) (unhide S1)).mono ?_
    rintro e w2 ⟨rfl, hb2⟩
    have B2 := hide (nnext (unhide B1) hb2)
    clear hb2 N1 S1 B1 CW
    go_wp2_with fail
    refine (snaps_true _).mono ?_
    rintro e w3 ⟨rfl, hb3⟩
    have B3 := hide (nnext (unhide B2) hb3)
    clear hb3 B2
    go_wp2_with fail
    refine (unhide CP _).mono ?_
    rintro e w4 ⟨rfl, rfl⟩
    clear CP
    go_wp2_with fail
    refine (unhide CR _).mono ?_
    rintro e w6 ⟨vn1, vs1, rfl, n1, s1, hb6⟩
    obtain ⟨an, cn, rfl, _⟩ := n1.slice
    obtain ⟨ai, ci, rfl, _⟩ := s1.slice
    have B6 := hide (nnext (nnext (unhide B3) hb6) (allocB w6 (.cells #[.int .i64 0, .slice an 0 cn, .slice ai 0 ci] 25)))
    have z1 : tr0.ns.length = 0 := rfl
    have z2 : tr0.ss.length = 0 := rfl
    have z3 : tr0.z = 0 := rfl
    rw [z1, z2, z3]
    clear n1 s1 hb6 CR
    go_wp2_with fail
    go_ret
    exact ⟨rfl, unhide B6⟩
end Go.Proofs.YtmifdieofccjaaaDoor
