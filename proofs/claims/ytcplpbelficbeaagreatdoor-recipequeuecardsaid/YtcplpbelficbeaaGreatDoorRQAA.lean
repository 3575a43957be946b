/-
  The law RecipeQueue: the walk.
-/
import Derived.Test.YtcplpbelficbeaaGreatDoorRQZ
import Derived.Test.YtcplpbelficbeaaGreatDoorRQW
import Derived.Deep.CutRange
namespace Go.Proofs.YtcplpbelficbeaaGreatDoor
open Go.RowKit

theorem own_two {α : Type} [Lay α] {W V : World} {K bz bt : Nat} {v : Value} {xs : List α} (h : OwnS W K v xs) (ht : TwoT bz bt W V) (hz : bz < K) (hb : bt < K) : OwnS V K v xs := by
  rcases h with h | ⟨g, cap, rfl, hg, rest, h1, h2, h3, h4⟩
  · exact .inl h
  · refine .inr ⟨g, cap, rfl, hg, rest, ?_, h2, h3, h4⟩
    have hlt : g < W.heap.size := (Array.getElem?_eq_some_iff.1 h1).1
    exact (ht.block g hlt (by omega)).trans h1
theorem qown_ge {α : Type} [Lay α] {W : World} {B k : Nat} {v : Value} {xs : List α} (h : OwnS W B v xs) (hk : v.ownBlock = some k) : B ≤ k := by
  rcases h with ⟨rfl, _⟩ | ⟨g, cap, rfl, hg, _⟩
  · simp [Value.ownBlock] at hk
  · simp only [Value.ownBlock, Option.some.injEq] at hk
    omega
theorem QB.grow {w W V : World} {K bz bt : Nat} {z : Int} {C : Tr} {vn vs : Value} (h : QB w W K bz bt z C vn vs) {r : Option Nat} (hg : W.grownBy V r) (hr : ∀ k, r = some k → K ≤ k) (hn : ∀ k, vn.ownBlock = some k → some k ≠ r) (hs : ∀ k, vs.ownBlock = some k → some k ≠ r) : QB w V K bz bt z C vn vs := by
  have h1 := h.hz
  have h2 := h.ht
  have h3 := h.kb
  refine ⟨(hg.block bz (by omega) (fun e => by have := hr bz e.symm; omega)).trans h.zb, (hg.block bt (by omega) (fun e => by have := hr bt e.symm; omega)).trans h.t, h.n.grown hg hn, h.s.grown hg hs, h.nz, h.nt, h.sz, h.st, h1, h2, h.ne, Nat.le_trans h3 hg.size, h.b.grown hg h.b.size (fun k e => by have := hr k e; omega)⟩
/-- how it stands ahead of each round -/
def QInv (w W : World) (K bz bt : Nat) (last : Int) (k : Nat) (M : List Int) (vl : Value) : Prop :=
  ∃ (z cv : Int) (t : Tr) (Q : List Nd) (an : Option Addr) (cn : Nat) (ai : Option Addr) (ci : Nat), QB w W K bz bt z t (.slice an t.ns.length cn) (.slice ai t.ss.length ci) ∧ Qu t z cv Q ∧ OwnS W K vl M ∧ M = Q.map Nd.o ∧ (last ≤ z ∧ ∀ n ∈ Q, last ≤ n.c) ∧ (0 ≤ cv ∧ cv + (Q.length : Int) ≤ 2 * (k : Int) ∧ 0 ≤ z ∧ z ≤ 6 + 2 * (k : Int))
theorem qinv_mk {w W : World} {K bz bt : Nat} {last z cv : Int} {k : Nat} {M : List Int} {vl vn vs : Value} {t : Tr} {Q : List Nd} (h1 : QB w W K bz bt z t vn vs) (h2 : Qu t z cv Q) (h3 : OwnS W K vl M) (h4 : M = Q.map Nd.o) (h5 : last ≤ z ∧ ∀ n ∈ Q, last ≤ n.c) (h6 : 0 ≤ cv ∧ cv + (Q.length : Int) ≤ 2 * (k : Int) ∧ 0 ≤ z ∧ z ≤ 6 + 2 * (k : Int)) : QInv w W K bz bt last k M vl := by
  obtain ⟨an, cn, rfl, _⟩ := h1.n.slice
  obtain ⟨ai, ci, rfl, _⟩ := h1.s.slice
  exact ⟨z, cv, t, Q, an, cn, ai, ci, h1, h2, h3, h4, h5, h6⟩
theorem qirow {w : World} {v : Value} {xs : List Int} (hv : SeqV w v xs) : ∀ W, Below w.heap.size w W → ∀ (k : Nat) (x : Int), xs[k]? = some x → ∃ b off cap, v = .slice (some ⟨b, off, none⟩) xs.length cap ∧ b < w.heap.size ∧ RowAt W b off (cellsL xs) := fun W hW k x hx => by
  obtain ⟨b, off, cap, e, hb, hr, _, _⟩ := seq_row hv (fun h0 => by obtain ⟨h1, _⟩ := List.getElem?_eq_some_iff.1 hx; rw [h0] at h1; simp at h1)
  exact ⟨b, off, cap, e, hb, hr.kept hW hb⟩
theorem tdiv_bounds {x : Int} (h : -9223372036854775808 ≤ x ∧ x ≤ 9223372036854775807) : -9223372036854775808 ≤ x.tdiv 5 ∧ x.tdiv 5 ≤ 9223372036854775807 := by
  rw [Int.tdiv_eq_ediv, show Int.sign 5 = 1 from rfl]
  split <;> omega
theorem map_filt (s : Int) (Q : List Nd) : (Q.map Nd.o).filter (fun x => decide (x ≠ s)) = (Q.filter fun n => decide (n.o ≠ s)).map Nd.o := by
  rw [List.filter_map]
  rfl

set_option maxRecDepth 20000 in
set_option maxHeartbeats 20000000 in
theorem recipeQueue_walk (v : Value) (is : List Int) (w : World) (hv : SeqV w v is) (hi : ∀ x ∈ is, -9223372036854775808 ≤ x ∧ x ≤ 9223372036854775807) (htab : Lib.TabIs Tryz.prog w "internal/strconv.uint64pow10" .u64 Lib.pow10Tab) :
    Calls Tryz.prog 3 #[v] w fun e w' => e = .returned (.bool true) ∧ Below w.heap.size w w' := by
  obtain ⟨i0, hi0, hz0, hz1, hz2⟩ := iinfo
  have CD : Hid (∀ (K bz bt : Nat) (z : Int) (C T : Tr) (un us : Value) (ro rs : Int) (rp : List UInt8) (rv rf : Int) (W : World), QB w W K bz bt z C un us → StepQ C (z + 1) ⟨ro, rs, rp, [], rv, rf⟩ T → 0 ≤ z ∧ z ≤ 1000 → rp.length ≤ 1000 →
      Calls Tryz.prog 6 #[.agg #[.int .i64 ro, .int .i64 rs, .string ⟨rp.toArray⟩, .string ⟨#[]⟩, .int .i64 rv, .int .i64 rf], .pointer (some ⟨bz, 0, none⟩), .pointer (some ⟨bt, 0, none⟩)] W fun e w' => e = .returned (.bool true) ∧ ∃ vn' vs', QB w w' K bz bt (z + 1) T vn' vs' ∧ OwnS w' W.heap.size vs' T.ss ∧ TwoT bz bt W w') :=
    hide (fun K bz bt z C T un us ro rs rp rv rf W h S hz hp => do_any w K bz bt z C T un us ⟨ro, rs, rp, [], rv, rf⟩ W h S hz hp (by simp) htab)
  have hmx : is.length ≤ 9223372036854775807 := by
    rcases hv with ⟨_, _, _, e, _⟩ | ⟨_, _, _, _, h1, h2, _⟩
    · rw [e]; simp
    · simp only [maxLen] at h2; omega
  have HV := hide (qirow hv)
  obtain ⟨va, vc, rfl⟩ := seq_slice hv
  have HI := hide hi
  clear hv hi htab
  go_enter Tryz.func3, Tryz.ntmps3
  go_wp2_with fail
  refine (fences_true _).mono ?_
  rintro e w1 ⟨rfl, rfl⟩
  go_wp2_with fail
  refine (tnew_any _).mono ?_
  rintro e w2 ⟨vn2, vs2, rfl, n2, s2, hb2⟩
  have Q0 : Hid (QB w1 ((w2.alloc (.cells #[.int .i64 trNew.z, vn2, vs2] 26)).alloc (.cells #[.int .i64 0] 3)) (w2.heap.size + 2) (w2.heap.size + 1) w2.heap.size 0 trNew vn2 vs2) := hide (by
    have hlow : ∀ {α : Type} [Lay α] {u : Value} {xs : List α}, OwnS w2 w1.heap.size u xs → ∀ k, w2.heap.size ≤ k → u.ownBlock ≠ some k := fun h k hk e => by have := h.low k e; omega
    refine ⟨?_, ?_, (n2.next (allocB _ _)).next (allocB _ _), (s2.next (allocB _ _)).next (allocB _ _), hlow n2 _ (by omega), hlow n2 _ (by omega), hlow s2 _ (by omega), hlow s2 _ (by omega), ⟨by have := hb2.size; omega, by omega⟩, ⟨hb2.size, by omega⟩, by omega, by simp, nnext (nnext hb2 (allocB _ _)) (allocB _ _)⟩
    · have h := heap_alloc_new (w2.alloc (.cells #[.int .i64 trNew.z, vn2, vs2] 26)) (.cells #[.int .i64 0] 3)
      rw [show (w2.alloc (.cells #[.int .i64 trNew.z, vn2, vs2] 26)).heap.size = w2.heap.size + 1 by simp] at h
      exact h
    · rw [(allocB _ _).block _ (by simp)]
      exact heap_alloc_new w2 _)
  obtain ⟨an2, cn2, rfl, _⟩ := n2.slice
  obtain ⟨ai2, ci2, rfl, _⟩ := s2.slice
  obtain ⟨bt, hbt⟩ : ∃ bt, w2.heap.size = bt := ⟨_, rfl⟩
  rw [hbt] at Q0
  clear n2 s2 hb2
  go_wp2_with fail
  generalize (w2.alloc (.cells #[.int .i64 trNew.z, .slice an2 trNew.ns.length cn2, .slice ai2 trNew.ss.length ci2] 26)).alloc (.cells #[.int .i64 0] 3) = W0 at Q0 ⊢
  try simp only [hbt]
  obtain ⟨bz, hbz⟩ : ∃ bz, bt + 1 = bz := ⟨_, rfl⟩
  obtain ⟨K, hK⟩ : ∃ K, bt + 2 = K := ⟨_, rfl⟩
  rw [hbz] at Q0 ⊢
  rw [hK] at Q0
  clear hbz hbt hK
  go_loopg [7] 5 (fun kx s7 wr => ∃ (k : Nat), s7 = .int .i64 ((k : Int) + 1) ∧ k ≤ 5 ∧ 5 - k ≤ kx ∧ Hid (∃ vn vs, QB w1 wr K bz bt k (opT k) vn vs))
  case atStart => exact ⟨0, rfl, by omega, by omega, hide ⟨_, _, unhide Q0⟩⟩
  case round =>
    obtain ⟨k, rfl, hk, hg, hQ⟩ := hrel
    by_cases hlt : k < 5
    · obtain ⟨vn, vs, hb⟩ := unhide hQ
      have S := opens_one (opens_good k hk) hlt
      have CX := unhide CD K bz bt (k : Int) (opT k) (opT (k + 1)) vn vs 1 ((k : Int) + 1) [] 0 0 wr hb S (by omega) (by simp)
      have hk5 : (k : Int) + 1 ≤ 5 := by omega
      clear hb S
      go_wp2_with fail
      refine CX.mono ?_
      rintro e w3 ⟨rfl, vn3, vs3, hb3, _, _⟩
      have HQ3 : Hid (∃ vn vs, QB w1 w3 K bz bt ((k + 1 : Nat) : Int) (opT (k + 1)) vn vs) := hide ⟨vn3, vs3, by simpa using hb3⟩
      clear CX hb3
      go_wp2_with fail
      go_roundg (5 - (k + 1))
      case measure => omega
      case rel => exact ⟨k + 1, by simp, by omega, Nat.le_refl _, HQ3⟩
    · obtain rfl : k = 5 := by omega
      obtain ⟨vn, vs, hb⟩ := unhide hQ
      obtain ⟨t6, S6, q6⟩ := first_step
      have CX := unhide CD K bz bt 5 (opT 5) t6 vn vs 3 1 [47, 108] 0 0 wr hb S6 (by omega) (by simp)
      clear hb S6
      go_wp2_with fail
      refine CX.mono ?_
      rintro e w3 ⟨rfl, vn3, vs3, hb3, _, _⟩
      have I0 : Hid (QInv w1 w3 K bz bt 0 0 [] (.slice none 0 0)) := hide (qinv_mk hb3 q6 (.inl ⟨rfl, rfl⟩) rfl ⟨by omega, by simp⟩ (by simp))
      clear CX hb3 q6 hQ Q0
      go_wp2_with fail
      go_loopg [8, 9, 10] is.length (fun kx s8 s9 s10 wr => ∃ (k : Nat) (last : Int) (a : Option Addr) (c : Nat) (M : List Int), s8 = .slice a M.length c ∧ s9 = .int .i64 last ∧ s10 = .int .i64 k ∧ k ≤ is.length ∧ k ≤ 60 ∧ is.length - k ≤ kx ∧ Hid (QInv w1 wr K bz bt last k M (.slice a M.length c)))
      case atStart => exact ⟨0, 0, none, 0, [], rfl, rfl, rfl, Nat.zero_le _, Nat.zero_le _, Nat.le_refl _, I0⟩
      case round =>
        obtain ⟨k, last, a, c, M, rfl, rfl, rfl, hk, hk60, hg, hI⟩ := hrel
        clear I0
        by_cases hlt : k < is.length
        · by_cases h60 : k < 60
          · obtain ⟨x, hx⟩ : ∃ x, is[k]? = some x := ⟨_, List.getElem?_eq_getElem hlt⟩
            have hkk : (k : Int) < (is.length : Int) := by omega
            have h60i : (k : Int) < 60 := by omega
            have hxb := unhide HI x (List.mem_of_getElem? hx)
            have hB : Hid (Below w1.heap.size w1 wr) := hide (by obtain ⟨_, _, _, _, _, _, _, _, h, _⟩ := unhide hI; exact h.b)
            obtain ⟨lb, lo, lc, he, hlb, q⟩ := unhide HV wr (unhide hB) k x hx
            simp only [Value.slice.injEq] at he
            obtain ⟨rfl, _, rfl⟩ := he
            have d0 := q.i0 hx
            have CP := hide (fun W => pick_any x 5 W (by omega) (by omega) hxb.1 hxb.2)
            have CQ := hide (fun W => pick_any (x.tdiv 5) 4 W (by omega) (by omega) (tdiv_bounds hxb).1 (tdiv_bounds hxb).2)
            have hp0 := Int.emod_nonneg x (show (5 : Int) ≠ 0 by omega)
            have hp1 := Int.emod_lt_of_pos x (show (0 : Int) < 5 by omega)
            obtain ⟨p5, hp5⟩ : ∃ p5, x % 5 = p5 := ⟨_, rfl⟩
            obtain ⟨p4, hp4⟩ : ∃ p4, (x.tdiv 5) % 4 = p4 := ⟨_, rfl⟩
            rw [hp5] at CP hp0 hp1
            rw [hp4] at CQ
            clear q hx hp5 hp4
            go_wp2_with fail
            refine (unhide CP _).mono ?_
            rintro e w4 ⟨rfl, rfl⟩
            go_wp2_with fail
            refine (unhide CQ _).mono ?_
            rintro e w5 ⟨rfl, rfl⟩
            go_upto_if 59 with fail
            clear CP CQ d0
            obtain ⟨s, hs⟩ : ∃ s, 1 + p5 = s := ⟨_, rfl⟩
            have hs5 : 1 ≤ s ∧ s ≤ 5 := by omega
            rw [hs]
            clear hs hp0 hp1
            go_cut [8, 12, 13] from 59 to 100 (fun t8 _ _ wx => ∃ a' c' M', t8 = .slice a' M'.length c' ∧ Hid (QInv w1 wx K bz bt last (k + 1) M' (.slice a' M'.length c')))
            case first =>
              obtain ⟨z, cv, t, Q, an, cn, ai, ci, hb, hq, hl, hM, hla, hnn⟩ := unhide hI
              have hQl : Q.length ≤ 120 := by omega
              by_cases hp : 0 < p4
              · obtain ⟨t', n, S, q', hno, hnc⟩ := ask_step (s := s) hq hs5 (by omega) (by omega) (by omega)
                have CA := ask_any s [47, 108] [113] w5 (by simp) (by simp)
                rw [show belL [47, 108] [113] = [47, 108, 47, 113] from by decide] at CA
                have KB := hide hb
                have KL := hide hl
                have KM : Hid (M ++ [s] = (Q ++ [n]).map Nd.o) := hide (by rw [hM, List.map_append, ← hno]; rfl)
                have KA : Hid ((last ≤ z + 1 ∧ ∀ m ∈ Q ++ [n], last ≤ m.c) ∧ (0 ≤ cv + 1 ∧ cv + 1 + ((Q ++ [n]).length : Int) ≤ 2 * ((k + 1 : Nat) : Int) ∧ 0 ≤ z + 1 ∧ z + 1 ≤ 6 + 2 * ((k + 1 : Nat) : Int))) := hide (by
                  refine ⟨⟨by omega, fun m hm => ?_⟩, ?_⟩
                  · rcases List.mem_append.1 hm with hm | hm
                    · exact hla.2 m hm
                    · simp at hm; rw [hm, hnc]; omega
                  · rw [List.length_append, List.length_singleton]; omega)
                have hMl : M.length ≤ 120 := by rw [hM, List.length_map]; exact hQl
                have CDX := hide (fun W (hW : Below w5.heap.size w5 W) => unhide CD K bz bt z t t' _ _ 3 s [47, 108, 47, 113] (-1) 3 W ((unhide KB).next hW) S (by omega) (by simp))
                have KQ := hide q'
                clear hb hq hl hM hla hnn S hno hnc q' hI hQl
                go_wp2_with fail
                refine CA.mono ?_
                rintro e w6 ⟨rfl, hb6⟩
                have CX := unhide CDX w6 hb6
                have L6 := hide ((unhide KL).next hb6)
                clear CA CDX
                go_wp2_with fail
                refine CX.mono ?_
                rintro e w7 ⟨rfl, vn7, vs7, h7, s7, t7⟩
                have L7 := own_two (unhide L6) t7 h7.hz.2 h7.ht.2
                have hap : ∀ k, vs7.ownBlock = some k → some k ≠ (Value.slice a M.length c).ownBlock := fun k hk e => by
                  have g1 := qown_ge s7 hk
                  have g2 := (unhide L6).low k e.symm
                  omega
                have X7 := hide (fun O => h7.next (allocB w7 O))
                have L8 := hide (fun O => L7.next (allocB w7 O))
                have hap2 : ∀ k, vn7.ownBlock = some k → some k ≠ (Value.slice a M.length c).ownBlock := h7.n.apart L7 (by decide)
                have HAP := hide hap
                have HAP2 := hide hap2
                have hK7 : Hid (∀ O, K ≤ (w7.alloc O).heap.size) := hide (fun O => Nat.le_trans h7.kb (allocB w7 O).size)
                clear CX h7 s7 t7 L7 hap hap2 hb6 L6 KL KB
                go_wp2_with (at_builtin; refine wpList_app1 rfl _ _ 22 rfl i0 _ 8 Tryz.underlying22 hi0 hz0 hz1 hz2 rfl (by decide) _ M rfl K (unhide L8 _) w7.heap.size rfl s (one_newI w7 s) (by omega) (by simp only [maxLen]; omega) (unhide hK7 _) ?_)
                intro a8 c8 w8 ho8 hg8
                have X8 := hide ((unhide X7 _).grow hg8 (fun k e => qown_ge (unhide L8 (.cells #[.int .i64 s] 3)) e) (unhide HAP2) (unhide HAP))
                have I8 : Hid (QInv w1 w8 K bz bt last (k + 1) (M ++ [s]) (.slice a8 (M.length + 1) c8)) := hide (qinv_mk (unhide X8) (unhide KQ) ho8 (unhide KM) (unhide KA).1 (unhide KA).2)
                clear ho8 hg8 X8 X7 L8 HAP HAP2 hK7 KM KA KQ
                go_wp2_with fail
                go_meet
                exact ⟨a8, c8, M ++ [s], by rw [List.length_append]; rfl, by rw [List.length_append]; exact I8⟩
              · obtain ⟨t1, t2, cv', S1, S2, q', hc0, hcs⟩ := close_step (s := s) hq hs5 (by omega) (by omega) (by omega)
                have C1 := unhide CD K bz bt z t t1 _ _ 2 s [] 0 0 w5 hb S1 (by omega) (by simp)
                have KL := hide hl
                have hMl : M.length ≤ 120 := by rw [hM, List.length_map]; exact hQl
                have KM : Hid (M.filter (fun x => decide (x ≠ s)) = (Q.filter fun n => decide (n.o ≠ s)).map Nd.o) := hide (by rw [hM]; exact map_filt s Q)
                have KA : Hid ((last ≤ z + 1 + 1 ∧ ∀ m ∈ Q.filter (fun n => decide (n.o ≠ s)), last ≤ m.c) ∧ (0 ≤ cv' ∧ cv' + ((Q.filter fun n => decide (n.o ≠ s)).length : Int) ≤ 2 * ((k + 1 : Nat) : Int) ∧ 0 ≤ z + 1 + 1 ∧ z + 1 + 1 ≤ 6 + 2 * ((k + 1 : Nat) : Int))) := hide ⟨⟨by omega, fun m hm => hla.2 m (List.mem_filter.1 hm).1⟩, by omega⟩
                have KQ := hide q'
                have hzz : 0 ≤ z + 1 ∧ z + 1 ≤ 1000 := by omega
                have KS2 := hide S2
                clear hb hq hl hM hla hnn S1 S2 q' hI hQl hc0 hcs
                go_wp2_with fail
                refine C1.mono ?_
                rintro e w6 ⟨rfl, vn6, vs6, h6, _, t6'⟩
                have L6 := hide (own_two (unhide KL) t6' h6.hz.2 h6.ht.2)
                have C2 := unhide CD K bz bt (z + 1) t1 t2 vn6 vs6 1 s [] 0 0 w6 h6 (unhide KS2) hzz (by simp)
                clear C1 h6 t6' KL KS2
                go_wp2_with fail
                refine C2.mono ?_
                rintro e w7 ⟨rfl, vn7, vs7, h7, _, t7⟩
                have L7 := own_two (unhide L6) t7 h7.hz.2 h7.ht.2
                have HR := hide (qirow L7.seq)
                have X7 := hide h7
                have hK7 : Hid (K ≤ w7.heap.size) := hide h7.kb
                clear C2 h7 t7 L7 L6
                go_wp2_with fail
                go_loopg [12, 13] M.length (fun kx s12 s13 wv => ∃ j : Nat, s13 = .int .i64 j ∧ j ≤ M.length ∧ M.length - j ≤ kx ∧ Hid (OwnS wv w7.heap.size s12 ((M.take j).filter fun x => decide (x ≠ s))) ∧ Hid (Below w7.heap.size w7 wv))
                case atStart => exact ⟨0, rfl, Nat.zero_le _, Nat.le_refl _, hide (.inl ⟨rfl, rfl⟩), hide (Below.refl _ _)⟩
                case round =>
                  obtain ⟨j, rfl, hj, hgj, hO, hBv⟩ := hrel
                  by_cases hlj : j < M.length
                  · obtain ⟨y, hy⟩ : ∃ y, M[j]? = some y := ⟨_, List.getElem?_eq_getElem hlj⟩
                    obtain ⟨mb, mo, mc, he, hmb, qm⟩ := unhide HR wr (unhide hBv) j y hy
                    simp only [Value.slice.injEq] at he
                    obtain ⟨rfl, _, rfl⟩ := he
                    have e0 := qm.i0 hy
                    have hjj : (j : Int) < (M.length : Int) := by omega
                    have HT : Hid ((M.take (j + 1)).filter (fun x => decide (x ≠ s)) = (M.take j).filter (fun x => decide (x ≠ s)) ++ (if y ≠ s then [y] else [])) := hide (by
                      rw [List.take_add_one, hy, List.filter_append]
                      by_cases h : y = s <;> simp [h])
                    have hln : ((M.take j).filter fun x => decide (x ≠ s)).length ≤ 120 := by
                      refine Nat.le_trans (List.length_filter_le _ _) ?_
                      rw [List.length_take]; omega
                    obtain ⟨va', vc', rfl, _⟩ := (unhide hO).slice
                    obtain ⟨P, hP⟩ : ∃ P, ((M.take j).filter fun x => decide (x ≠ s)) = P := ⟨_, rfl⟩
                    rw [hP] at hO hln HT
                    rw [hP]
                    have hmw : mb < wr.heap.size := Nat.lt_of_lt_of_le hmb (unhide hBv).size
                    clear qm hy hP
                    by_cases hys : y = s
                    · have hyb : (y != s) = false := by simpa using hys
                      rw [if_neg (by simpa using hys), List.append_nil] at HT
                      clear hys
                      go_wp2_with fail
                      go_roundg (M.length - (j + 1))
                      case measure => omega
                      case rel => exact ⟨j + 1, rfl, by omega, Nat.le_refl _, (by rw [unhide HT]; exact hO), hBv⟩
                    · have hyb : (y != s) = true := by simpa using hys
                      rw [if_pos hys] at HT
                      clear hys
                      have O8 := hide (fun O => (unhide hO).next (allocB wr O))
                      have h78 : Hid (∀ O, w7.heap.size ≤ (wr.alloc O).heap.size) := hide (fun O => Nat.le_trans (unhide hBv).size (allocB wr O).size)
                      have B8 : Hid (∀ O V, (wr.alloc O).grownBy V (Value.slice va' P.length vc').ownBlock → Below w7.heap.size w7 V) := hide (fun O V hg => (nnext (unhide hBv) (allocB wr O)).grown hg (unhide h78 O) (fun k e => qown_ge (unhide hO) e))
                      go_wp2_with (at_builtin; refine wpList_app1 rfl _ _ 22 rfl i0 _ 8 Tryz.underlying22 hi0 hz0 hz1 hz2 rfl (by decide) _ P rfl w7.heap.size (unhide O8 _) wr.heap.size rfl y (one_newI wr y) (by omega) (by simp only [maxLen]; omega) (unhide h78 _) ?_)
                      intro a8 c8 w8 ho8 hg8
                      have B9 := hide (unhide B8 _ _ hg8)
                      have O9 : Hid (OwnS w8 w7.heap.size (.slice a8 (P ++ [y]).length c8) (P ++ [y])) := hide (by rw [List.length_append]; exact ho8)
                      clear ho8 hg8 O8 h78 B8
                      go_wp2_with fail
                      go_roundg (M.length - (j + 1))
                      case measure => omega
                      case rel => exact ⟨j + 1, rfl, by omega, Nat.le_refl _, (by rw [unhide HT]; rw [List.length_append] at O9; exact O9), B9⟩
                  · obtain rfl : j = M.length := by omega
                    have hjj : ¬ (M.length : Int) < (M.length : Int) := by omega
                    have O1 := unhide hO
                    rw [List.take_length] at O1
                    obtain ⟨P, hP⟩ : ∃ P, (M.filter fun x => decide (x ≠ s)) = P := ⟨_, rfl⟩
                    rw [hP] at O1 KM
                    have HO1 := hide O1
                    have X8 := hide ((unhide X7).next (unhide hBv))
                    obtain ⟨va', vc', rfl, _⟩ := O1.slice
                    have I8 : Hid (QInv w1 wr K bz bt last (k + 1) P (.slice va' P.length vc')) := hide (qinv_mk (unhide X8) (unhide KQ) ((unhide HO1).lower (unhide hK7)) (unhide KM) (unhide KA).1 (unhide KA).2)
                    clear O1 HO1 X8 KM KA KQ hP hO
                    go_wp2_with fail
                    go_meet
                    exact ⟨va', vc', P, rfl, I8⟩
            case rest =>
              obtain ⟨a', c', M', rfl, I1⟩ := hcut
              clear hI
              obtain ⟨z, cv, t, Q, an, cn, ai, ci, hb, hq, hl, hM, hla, hnn⟩ := unhide I1
              have hMl : M'.length = Q.length := by rw [hM, List.length_map]
              have g := hq.g
              have CL := hide (fun W (hW : Below wc.heap.size wc W) => line_any t.z (.slice an t.ns.length cn) (.slice ai t.ss.length ci) t.ns [47, 108] [113] W (hb.next hW).n.seq g.nod.asc g.nod.few (by simp))
              have CH := hide (fun W (hW : Below wc.heap.size wc W) => holder_any t (.slice an t.ns.length cn) (.slice ai t.ss.length ci) [47, 108] [113] W (hb.next hW).n.seq g (by simp))
              rw [(qu_line hq).1] at CL CH
              have hLL := qu_len hq
              rw [← hMl] at hLL
              obtain ⟨LL, hLe⟩ : ∃ LL, linL t.ns [47, 108] [113] = LL := ⟨_, rfl⟩
              rw [hLe] at CL hLL
              have KB := hide hb
              have HR := hide (qirow hl.seq)
              have hbtw : bt < wc.heap.size := by have := hb.ht; have := hb.kb; omega
              obtain ⟨⟨_, c0, c1, c2⟩, _⟩ := hb.cells
              have KI := hide (fun W (hW : Below wc.heap.size wc W) (L2 : Int) (h5 : L2 ≤ z ∧ ∀ n ∈ Q, L2 ≤ n.c) => qinv_mk (hb.next hW) hq (hl.next hW) hM h5 hnn)
              have HMM := hide hM
              clear hM
              cases Q with
              | nil =>
                rw [(qu_none hq).1, (qu_none hq).2] at CH
                obtain rfl : M' = [] := unhide HMM
                have KLA := hide hla
                clear hb hq hl hla hnn g hLe hMl I1
                go_wp2_with fail
                refine (unhide CL _ (Below.refl _ _)).mono ?_
                rintro e w6 ⟨v6, rfl, hk6, hb6⟩
                have B6 := hide hb6
                obtain ⟨ka, kc, rfl, _⟩ := hk6.slice
                rw [hLL]
                obtain ⟨⟨_, e0, e1, e2⟩, _⟩ := ((unhide KB).next hb6).cells
                clear hk6 hb6
                go_wp2_with fail
                refine (unhide CH _ (unhide B6)).mono ?_
                rintro e w7 ⟨rfl, hb7⟩
                have B7 := hide (nnext (unhide B6) hb7)
                have I7 := hide (unhide KI w7 (unhide B7) last (unhide KLA))
                clear hb7 CL CH KI KB c0 c1 c2 e0 e1 e2
                go_wp2_with fail
                go_roundg (is.length - (k + 1))
                case measure => omega
                case rel => exact ⟨k + 1, last, a', c', [], rfl, rfl, by simp, by omega, by omega, Nat.le_refl _, I7⟩
              | cons n Q =>
                rw [(qu_first hq).1, (qu_first hq).2] at CH
                have hM0 : M'[0]? = some n.o := by rw [unhide HMM]; rfl
                have HM0 := hide hM0
                have hml : 0 < M'.length := by rw [hMl]; simp
                have KLA : Hid (n.c ≤ z ∧ ∀ m ∈ n :: Q, n.c ≤ m.c) := hide (by
                  obtain ⟨R, l, hns, _⟩ := hq.ns
                  have kk := g.nod.ok n (by rw [hns]; simp)
                  have h1 := kk.cm
                  have h2 := kk.mz
                  have h3 := hq.tz
                  refine ⟨by omega, fun m hm => ?_⟩
                  rcases List.mem_cons.1 hm with rfl | hm
                  · exact Int.le_refl _
                  · exact Int.le_of_lt ((List.pairwise_cons.1 hq.up).1 m hm))
                have hlc : last ≤ n.c := hla.2 n (by simp)
                have CF := hide (fun W => fence_any last n.c W)
                rw [show fenN last n.c = n.c from if_pos hlc, decide_eq_true hlc] at CF
                obtain ⟨no, hno⟩ : ∃ no, n.o = no := ⟨_, rfl⟩
                obtain ⟨nc, hnc⟩ : ∃ nc, n.c = nc := ⟨_, rfl⟩
                rw [hno] at HM0 CH
                rw [hnc] at CH CF KLA
                have hm0 : ((M'.length : Int) == 0) = false := beq_eq_false_iff_ne.2 (by omega)
                have hm1 : (0 : Int) < (M'.length : Int) := by omega
                clear hb hq hl hla hnn g hLe hMl I1 hM0 hlc hno hnc
                go_wp2_with fail
                refine (unhide CL _ (Below.refl _ _)).mono ?_
                rintro e w6 ⟨v6, rfl, hk6, hb6⟩
                have B6 := hide hb6
                obtain ⟨ka, kc, rfl, _⟩ := hk6.slice
                rw [hLL]
                obtain ⟨⟨_, e0, e1, e2⟩, _⟩ := ((unhide KB).next hb6).cells
                clear hk6 hb6
                go_wp2_with fail
                refine (unhide CH _ (unhide B6)).mono ?_
                rintro e w7 ⟨rfl, hb7⟩
                have B7 := hide (nnext (unhide B6) hb7)
                have I7 := hide (unhide KI w7 (unhide B7) nc (unhide KLA))
                obtain ⟨mb, mo, mc, he, hmb, qm⟩ := unhide HR w7 (unhide B7) 0 no (unhide HM0)
                simp only [Value.slice.injEq] at he
                obtain ⟨rfl, _, rfl⟩ := he
                have m0 : w7.cell? ⟨mb, mo, none⟩ = some (.int .i64 no) := qm.i0 (unhide HM0)
                clear hb7 CL CH KI KB c0 c1 c2 e0 e1 e2 qm
                go_wp2_with fail
                refine (unhide CF _).mono ?_
                rintro e w8 ⟨rfl, rfl⟩
                go_wp2_with fail
                go_roundg (is.length - (k + 1))
                case measure => omega
                case rel => exact ⟨k + 1, nc, _, _, M', rfl, rfl, by simp, by omega, by omega, Nat.le_refl _, I7⟩
          · have h60i : ¬ (k : Int) < 60 := by omega
            have hkk : (k : Int) < (is.length : Int) := by omega
            have hB : Hid (Below w1.heap.size w1 wr) := hide (by obtain ⟨_, _, _, _, _, _, _, _, h, _⟩ := unhide hI; exact h.b)
            go_wp2_with fail
            go_ret
            exact ⟨rfl, unhide hB⟩
        · have hkk : ¬ (k : Int) < (is.length : Int) := by omega
          have hB : Hid (Below w1.heap.size w1 wr) := hide (by obtain ⟨_, _, _, _, _, _, _, _, h, _⟩ := unhide hI; exact h.b)
          go_wp2_with fail
          go_ret
          exact ⟨rfl, unhide hB⟩
end Go.Proofs.YtcplpbelficbeaaGreatDoor
