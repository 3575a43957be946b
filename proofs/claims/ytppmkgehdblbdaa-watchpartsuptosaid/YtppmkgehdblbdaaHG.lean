/-
  The law WatchParts: the walk.
-/
import Derived.Test.YtppmkgehdblbdaaHF
namespace Go.Proofs.Ytppmkgehdblbdaa
open Go.RowKit

theorem parts_left {X Y : List Nt} {i : Nat} {n : Nt} (h : (X ++ Y)[i]? = some n) (hi : i < X.length) : X[i]? = some n := by
  rwa [List.getElem?_append_left hi] at h
theorem parts_right {X Y : List Nt} {i : Nat} {n : Nt} (h : (X ++ Y)[i]? = some n) (hi : X.length ≤ i) : Y[i - X.length]? = some n := by
  rwa [List.getElem?_append_right hi] at h

set_option maxRecDepth 20000 in
set_option maxHeartbeats 4000000 in
theorem watchParts_walk (v u t : Value) (ws : List Wa) (xa xb : List Ev) (w : World) (hv : SeqV w v ws) (hu : SeqV w u xa) (ht : SeqV w t xb) (hs : Short ws) (ha : ShortE xa) (hb : ShortE xb) (hl : ws.length * 32 ≤ 140737488351232) (hsum : (xa.length + xb.length) * 24 ≤ 140737488351232) :
    Calls Try.prog 5 #[v, u, t] w fun e w' => e = .returned (.bool true) ∧ Below w.heap.size w w' := by
  have hab : ShortE (xa ++ xb) := fun x hx => by rcases List.mem_append.1 hx with h | h; exact ha x h; exact hb x h
  have C1 := hide (fun W (hW : Below w.heap.size w W) => kept_any v ws W (hv.next hW) (by omega))
  have CF := hide (fun W v' u' (h : SeqV W v' ws) (h' : SeqV W u' (xa ++ xb)) => fire_any v' u' ws (xa ++ xb) W h h' hs hab hl (by simp; omega))
  have CX := hide (fun W v' u' (h : SeqV W v' ws) (h' : SeqV W u' xa) => fire_any v' u' ws xa W h h' hs ha hl (by omega))
  have hfl := fire_len xa ws
  have hfl2 := fire_len xb (fireW ws xa)
  have CY := hide (fun W v' u' (h : SeqV W v' (fireW ws xa)) (h' : SeqV W u' xb) => fire_any v' u' (fireW ws xa) xb W h h' (short_fire hs xa) hb (by omega) (by omega))
  rw [fireN_app, fireW_app] at CF
  have HU := hide (fun W (hW : Below w.heap.size w W) => hu.next hW)
  have HT := hide (fun W (hW : Below w.heap.size w W) => ht.next hW)
  obtain ⟨va, vc, rfl⟩ := seq_slice hv
  obtain ⟨ua, uc, rfl⟩ := seq_slice hu
  obtain ⟨ta, tc, rfl⟩ := seq_slice ht
  obtain ⟨X, hX⟩ : ∃ X, fireN ws xa = X := ⟨_, rfl⟩
  obtain ⟨L, hL⟩ : ∃ L, fireW ws xa = L := ⟨_, rfl⟩
  rw [hX] at CF CX hfl
  rw [hL] at CF CX CY hfl hfl2
  obtain ⟨Y, hY⟩ : ∃ Y, fireN L xb = Y := ⟨_, rfl⟩
  obtain ⟨M, hM⟩ : ∃ M, fireW L xb = M := ⟨_, rfl⟩
  rw [hY] at CF CY hfl2
  rw [hM] at CF CY hfl2
  have C5 := hide (fun W va vb (h : SeqV W va M) (h' : SeqV W vb M) => ksameW_any va vb M W h h' (by omega))
  obtain ⟨Z, hZ⟩ : ∃ Z, X ++ Y = Z := ⟨_, rfl⟩
  have hzl : X.length + Y.length = Z.length := by rw [← hZ, List.length_append]
  rw [hZ] at CF
  have HZ := hide hZ
  have HZL := hide hzl
  have hml : Z.length ≤ 140737488355328 := by omega
  have hni := lists_len hzl
  clear hZ hzl
  clear hv hu ht hs ha hb hab hX hL hY hM hfl hfl2
  go_enter Try.func5, Try.ntmps5
  go_wp2_with fail
  refine (unhide C1 w (Below.refl _ _)).mono ?_
  rintro e w1 ⟨v1, rfl, ho1, hb1⟩
  have HB1 := hide hb1
  have HS1 := hide (fun W (hW : Below w1.heap.size w1 W) => ho1.seq.next hW)
  obtain ⟨a1, c1, rfl, _⟩ := ho1.slice
  clear ho1 hb1
  go_wp2_with (at_builtin; refine wpList_app_evs rfl _ _ rfl (.slice none 0 0) (.slice ua xa.length uc) [] xa w1.heap.size rfl (.inl ⟨rfl, rfl⟩) (Nat.le_refl _) rfl (unhide HU _ (unhide HB1)) (by simp; omega) ?_)
  intro a2 c2 w2 ho2 hg2
  have hb2 : Below w1.heap.size w1 w2 := grownO hg2 _ (Nat.le_refl _) (by intro k hk; cases hk)
  have HB12 := hide hb2
  have HB2 := hide (nnext (unhide HB1) hb2)
  try simp only [List.length_nil, Nat.zero_add, List.nil_append] at ho2
  have HO2 := hide ho2
  clear ho2 hg2 hb2
  try simp only [List.length_nil, Nat.zero_add]
  go_wp2_with (at_builtin; refine wpList_app_evs rfl _ _ rfl (.slice a2 xa.length c2) (.slice ta xb.length tc) xa xb w1.heap.size rfl (unhide HO2) (unhide HB12).size rfl (unhide HT _ (unhide HB2)) (by omega) ?_)
  intro a3 c3 w3 ho3 hg3
  have hb3 : Below w1.heap.size w2 w3 := grownO hg3 _ (unhide HB12).size (ownS_above (unhide HO2))
  have hb13 : Below w1.heap.size w1 w3 := (unhide HB12).trans hb3
  have CF1 := unhide CF w3 _ _ (unhide HS1 w3 hb13) ho3.seq
  have HB3 := hide (nnext (unhide HB1) hb13)
  clear ho3 hg3 hb3 hb13 HS1 HO2
  go_wp2_with fail
  refine CF1.mono ?_
  rintro e w4 ⟨vn4, vl4, rfl, hn4, ⟨g4, rfl, hg4, ho4⟩, hb4⟩
  have HB4 := hide (nnext (unhide HB3) hb4)
  have HN4 := hide (fun W (hW : Below w4.heap.size w4 W) => hn4.seq.next hW)
  have HO4 := hide (fun W (hW : Below w4.heap.size w4 W) => (ownr_seq ho4).next hW)
  obtain ⟨na4, nc4, rfl, _⟩ := hn4.slice
  clear CF1 hn4 ho4 hb4 HB12
  go_wp2_with fail
  refine (unhide C1 w4 (unhide HB4)).mono ?_
  rintro e w5 ⟨v5, rfl, ho5, hb5⟩
  have HB45 := hide hb5
  have HB5 := hide (nnext (unhide HB4) hb5)
  have HS5 := hide (fun W (hW : Below w5.heap.size w5 W) => ho5.seq.next hW)
  obtain ⟨a5, c5, rfl, _⟩ := ho5.slice
  clear ho5 hb5
  go_wp2_with (at_builtin; refine wpList_app_evs rfl _ _ rfl (.slice none 0 0) (.slice ua xa.length uc) [] xa w5.heap.size rfl (.inl ⟨rfl, rfl⟩) (Nat.le_refl _) rfl (unhide HU _ (unhide HB5)) (by simp; omega) ?_)
  intro a6 c6 w6 ho6 hg6
  have hb6 : Below w5.heap.size w5 w6 := grownO hg6 _ (Nat.le_refl _) (by intro k hk; cases hk)
  have CX1 := unhide CX w6 _ _ (unhide HS5 w6 hb6) ho6.seq
  have HB46 := hide (nnext (unhide HB45) hb6)
  have HB6 := hide (nnext (unhide HB5) hb6)
  clear ho6 hg6 hb6 HS5 HB45
  try simp only [List.length_nil, Nat.zero_add, List.nil_append] at CX1
  try simp only [List.length_nil, Nat.zero_add]
  go_wp2_with fail
  refine CX1.mono ?_
  rintro e w7 ⟨vn7, vl7, rfl, hn7, ⟨g7, rfl, hg7, ho7⟩, hb7⟩
  have HB47 := hide (nnext (unhide HB46) hb7)
  have HB7 := hide (nnext (unhide HB6) hb7)
  have HN7 := hide (fun W (hW : Below w7.heap.size w7 W) => hn7.seq.next hW)
  have HO7 := hide (fun W (hW : Below w7.heap.size w7 W) => (ownr_seq ho7).next hW)
  obtain ⟨na7, nc7, rfl, _⟩ := hn7.slice
  clear CX1 hn7 ho7 hb7
  go_wp2_with (at_builtin; refine wpList_app_evs rfl _ _ rfl (.slice none 0 0) (.slice ta xb.length tc) [] xb w7.heap.size rfl (.inl ⟨rfl, rfl⟩) (Nat.le_refl _) rfl (unhide HT _ (unhide HB7)) (by simp; omega) ?_)
  intro a8 c8 w8 ho8 hg8
  have hb8 : Below w7.heap.size w7 w8 := grownO hg8 _ (Nat.le_refl _) (by intro k hk; cases hk)
  have CY1 := unhide CY w8 _ _ (unhide HO7 w8 hb8) ho8.seq
  have HB78 := hide hb8
  have HB8 := hide (nnext (unhide HB7) hb8)
  clear ho8 hg8 hb8 HO7
  try simp only [List.length_nil, Nat.zero_add, List.nil_append] at CY1
  try simp only [List.length_nil, Nat.zero_add]
  go_wp2_with fail
  refine CY1.mono ?_
  rintro e w9 ⟨vn9, vl9, rfl, hn9, ⟨g9, rfl, hg9, ho9⟩, hb9⟩
  have HB79 := hide (nnext (unhide HB78) hb9)
  have HB9 := hide (nnext (unhide HB8) hb9)
  have HN9 := hide (fun W (hW : Below w9.heap.size w9 W) => hn9.seq.next hW)
  have HO9 := hide (fun W (hW : Below w9.heap.size w9 W) => (ownr_seq ho9).next hW)
  obtain ⟨na9, nc9, rfl, _⟩ := hn9.slice
  clear CY1 hn9 ho9 hb9 HB78
  go_wp2_with fail
  refine (tells_any _).mono ?_
  rintro e w10 ⟨rfl, hb10⟩
  have C51 := unhide C5 w10 _ _ (unhide HO4 w10 (nnext (nnext (unhide HB47) (unhide HB79)) hb10)) (unhide HO9 w10 hb10)
  have HB910 := hide hb10
  have HB10 := hide (nnext (unhide HB9) hb10)
  clear hb10
  go_wp2_with fail
  refine C51.mono ?_
  rintro e w11 ⟨rfl, hb11⟩
  have HB911 := hide (nnext (unhide HB910) hb11)
  have HB711 := hide (nnext (unhide HB79) (unhide HB911))
  have HB411 := hide (nnext (unhide HB47) (unhide HB711))
  have HB11 := hide (nnext (unhide HB10) hb11)
  clear C51 hb11
  have rows : ∀ (Z : List Nt) (z : Option Addr) (zc : Nat), (∀ W, Below w11.heap.size w11 W → SeqV W (.slice z Z.length zc) Z) → ∀ W, Below w11.heap.size w11 W → ∀ (k : Nat) (x : Nt), Z[k]? = some x → ∃ b off, z = some ⟨b, off, none⟩ ∧ RowAt W b off (cellsL Z) := by
    intro Z z zc h W hW k x hx
    obtain ⟨b, off, cap, e, _, hr, _, _⟩ := seq_row (h W hW) (fun h0 => by obtain ⟨h1, _⟩ := List.getElem?_eq_some_iff.1 hx; rw [h0] at h1; simp at h1)
    simp only [Value.slice.injEq] at e
    exact ⟨b, off, e.1, hr⟩
  have KA := hide (rows Z na4 nc4 (fun W hW => unhide HN4 W (nnext (unhide HB411) hW)))
  have KX := hide (rows X na7 nc7 (fun W hW => unhide HN7 W (nnext (unhide HB711) hW)))
  have KY := hide (rows Y na9 nc9 (fun W hW => unhide HN9 W (nnext (unhide HB911) hW)))
  clear rows
  go_wp2_with fail
  go_loopg [12] Z.length (fun kx s12 wr => ∃ i : Nat, s12 = .int .i64 i ∧ i ≤ Z.length ∧ Z.length - i ≤ kx ∧ Hid (Below w11.heap.size w11 wr))
  case atStart => exact ⟨0, rfl, Nat.zero_le _, Nat.le_refl _, hide (Below.refl _ _)⟩
  case round =>
    obtain ⟨i, rfl, hi, hgi, hB⟩ := hrel
    by_cases hlt : i < Z.length
    · obtain ⟨n, hn⟩ : ∃ n, Z[i]? = some n := ⟨_, List.getElem?_eq_getElem hlt⟩
      obtain ⟨b1, o1, rfl, q1⟩ := unhide KA wr (unhide hB) i n hn
      have d0 := q1.t0 hn
      have d1 := q1.t1 hn
      have d2 := q1.t2 hn
      have hii : (i : Int) < (Z.length : Int) := by omega
      have hn' := hn
      rw [← unhide HZ] at hn'
      by_cases hx : i < X.length
      · have hnx := parts_left hn' hx
        obtain ⟨b2, o2, rfl, q2⟩ := unhide KX wr (unhide hB) i n hnx
        have r0 := q2.t0 hnx
        have r1 := q2.t1 hnx
        have r2 := q2.t2 hnx
        have hxi : (i : Int) < (X.length : Int) := by omega
        have hxg : decide (X.length ≤ i) = false := by simp; omega
        clear q1 q2 hn hn' hnx
        go_wp2_with fail
        go_quiet (fail)
        go_wp2_with fail
        go_roundg (Z.length - (i + 1))
        case measure => omega
        case rel => exact ⟨i + 1, rfl, by omega, Nat.le_refl _, hide (nnext (unhide hB) ⟨rfl, rfl, rfl, Nat.le_refl _, fun _ _ => rfl⟩)⟩
      · have hny := parts_right hn' (by omega)
        obtain ⟨j, hj⟩ : ∃ j, i = X.length + j := ⟨i - X.length, by omega⟩
        subst hj
        rw [Nat.add_sub_cancel_left] at hny
        obtain ⟨b2, o2, rfl, q2⟩ := unhide KY wr (unhide hB) j n hny
        have r0 := q2.t0 hny
        have r1 := q2.t1 hny
        have r2 := q2.t2 hny
        have hjy : (j : Int) < (Y.length : Int) := by have := (List.getElem?_eq_some_iff.1 hny).1; omega
        have hxi : decide ((X.length : Int) + (j : Int) < (X.length : Int)) = false := by simp; omega
        have hxg : (X.length : Int) ≤ (X.length : Int) + (j : Int) := by omega
        have hsub : (X.length : Int) + (j : Int) - (X.length : Int) = (j : Int) := by omega
        clear q1 q2 hn hn' hny
        go_wp2_with fail
        go_quiet (fail)
        go_wp2_with fail
        go_roundg (Z.length - (X.length + j + 1))
        case measure => omega
        case rel => exact ⟨X.length + j + 1, rfl, by omega, Nat.le_refl _, hide (nnext (unhide hB) ⟨rfl, rfl, rfl, Nat.le_refl _, fun _ _ => rfl⟩)⟩
    · obtain rfl : i = Z.length := by omega
      have HBe := hide (nnext (unhide HB11) (unhide hB))
      go_wp2_with fail
      go_ret
      exact ⟨rfl, unhide HBe⟩

end Go.Proofs.Ytppmkgehdblbdaa
