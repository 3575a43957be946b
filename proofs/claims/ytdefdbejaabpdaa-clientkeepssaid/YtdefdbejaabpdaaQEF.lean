/-
  What aviaryref's KeepEntry and Tell answer: the walks.
  Regions that draw their order, whose last operations wait for a call that waits for all that read: what the cells hold need be kept only till that call. (As the library's law on kept cells, which asks it behind every operation.)
-/
import Derived.Test.YtdefdbejaabpdaaQEE
import Derived.Test.YtdefdbejaabpdaaQED
import Derived.Test.YtdefdbejaabpdaaQEA
import Derived.Deep.RegionHeld3
namespace Go.Proofs.Ytdefdbejaabpdaa
open Go.RowKit

theorem wo_parts {es : List En} (h : EAsc es) (p : List UInt8) : ∃ A B, woE es p = A ++ B ∧ (∀ a ∈ A, bl a.p p = true) ∧ (∀ b ∈ B, bl p b.p = true) ∧ ∀ x : En, x.p = p → keepE es x = A ++ normE x :: B := by
  have wA : ∀ A : List En, (∀ a ∈ A, bl a.p p = true) → woE A p = A := fun A h => List.filter_eq_self.2 fun a ha => by simp [bl_ne (h a ha)]
  have wB : ∀ A : List En, (∀ a ∈ A, bl p a.p = true) → woE A p = A := fun A h => List.filter_eq_self.2 fun a ha => by simp [(bl_ne (h a ha)).symm]
  have ap : ∀ A B : List En, woE (A ++ B) p = woE A p ++ woE B p := fun A B => List.filter_append ..
  rcases ewhere p es h with ⟨A, f, B, T⟩ | ⟨A, B, G⟩
  · refine ⟨A, B, ?_, T.lo, T.hi, fun x hx => ?_⟩
    · rw [T.eq, ap, wA A T.lo, show f :: B = [f] ++ B from rfl, ap, wB B T.hi]
      simp [woE, T.nm]
    · subst hx; exact T.keep
  · refine ⟨A, B, ?_, G.lo, G.hi, fun x hx => ?_⟩
    · rw [G.eq, ap, wA A G.lo, wB B G.hi]
    · subst hx; exact G.keep

/-- the world of KeepEntry's loop -/
structure KeX (w W : World) (s z : Int) (v0 : Value) (x : En) : Prop where
  old : Below w.heap.size w W
  box : CBox W w.heap.size s z v0
  one : OneR W (w.heap.size + 1) x
  res : CBox W (w.heap.size + 2) 0 0 (.slice none 0 0)
  size : w.heap.size + 3 ≤ W.heap.size
theorem KeX.next {w W V : World} {s z : Int} {v0 : Value} {x : En} (h : KeX w W s z v0 x) (hb : Below W.heap.size W V) : KeX w V s z v0 x :=
  ⟨nnext h.old hb, h.box.next hb, h.one.keptz hb h.one.ltz, h.res.next hb, Nat.le_trans h.size hb.size⟩
theorem KeX.grown {w W V : World} {s z : Int} {v0 : Value} {x : En} {r : Option Nat} (h : KeX w W s z v0 x) (hg : W.grownBy V r) (hr : ∀ k, r = some k → w.heap.size + 3 ≤ k) : KeX w V s z v0 x :=
  ⟨h.old.grown hg h.old.size (fun k e => by have := hr k e; omega), h.box.grown hg (fun e => by have := hr _ e.symm; omega),
    (hg.block _ h.one.ltz (fun e => by have := hr _ e.symm; omega)).trans h.one, h.res.grown hg (fun e => by have := hr _ e.symm; omega), Nat.le_trans h.size hg.size⟩

set_option maxRecDepth 10000 in
set_option maxHeartbeats 4000000 in
theorem rkeep_any (s z : Int) (v : Value) (es : List En) (x : En) (w : World) (hv : SeqV w v es) (hl : es.length ≤ 100) (ha : EAsc es) :
    Calls Try.prog 16 #[clV s z v, enV x] w fun e w' => ∃ v', e = .returned (clV s z v') ∧ OwnS w' w.heap.size v' (keepE es x) ∧ Below w.heap.size w w' := by
  have CW := fun W (hW : Below w.heap.size w W) => rwithout_any v es x.p W (hv.next hW) (by omega)
  obtain ⟨A, B, hAB, lo, hi, hK⟩ := wo_parts ha x.p
  have HK := hide (hK x rfl)
  have hRl : (A ++ B).length ≤ 100 := by rw [← hAB]; exact Nat.le_trans (wo_len _ _) hl
  rw [hAB] at CW
  have HLo := hide lo
  have HHi := hide hi
  obtain ⟨a, c, rfl⟩ := seq_slice hv
  obtain ⟨D, hD⟩ : ∃ D, keepE es x = D := ⟨_, rfl⟩
  rw [hD] at HK ⊢
  obtain ⟨nx, hnx⟩ : ∃ nx, normE x = nx := ⟨_, rfl⟩
  rw [hnx] at HK
  have HNX := hide hnx
  unfold clV enV
  clear hv ha hAB lo hi hK hD hnx
  have hABl : (A ++ B).length = A.length + B.length := List.length_append
  rw [hABl] at hRl
  have HAB := hide hABl
  clear hABl
  go_enter Try.func16, Try.ntmps16
  cases ht : x.t with
  | true =>
    obtain ⟨W, hW, B0, K0, K1, K2, hz⟩ := keep_new w s z (.slice a es.length c) x
    have HX : Hid (KeX w W s z (.slice a es.length c) nx) := hide ⟨B0, K0, by rw [← unhide HNX, normE_yes ht]; exact K1, K2, by omega⟩
    rw [ht] at hW
    clear B0 K0 K1 K2
    go_wp2_with fail
    rw [← hW]
    clear hW hz
    refine (CW _ (unhide HX).old).mono ?_
    rintro e w1 ⟨v1, rfl, ho1, hb1⟩
    have hzW := (unhide HX).size
    obtain ⟨a1, c1, rfl, _⟩ := ho1.slice
    have HX1 := hide ((unhide HX).next hb1)
    have hw1 := (unhide HX1).size
    have HR1 := hide (crow (ho1.seq))
    have HLL : Hid ((Value.slice a1 (A ++ B).length c1).ownBlock = (Value.slice a1 (A ++ B).length c1).ownBlock) := hide rfl
    rw [unhide HAB] at HR1 ⊢
    clear CW hb1 ho1 HX HLL
    go_wp2_with fail
    go_loopg [5, 6, 19] (A.length + B.length) (fun kx s5 s6 s19 wr => ∃ (k n : Nat) (d : Bool) (a2 : Option Addr) (c2 : Nat) (L : List En), s19 = .int .i64 k ∧ s6 = .bool d ∧ s5 = .slice a2 n c2 ∧ k ≤ A.length + B.length ∧ A.length + B.length - k ≤ kx ∧ n ≤ k + 1 ∧ Hid (L.length = n) ∧ Hid ((k ≤ A.length ∧ d = false ∧ L = (A ++ B).take k) ∨ (A.length < k ∧ d = true ∧ L = A ++ nx :: B.take (k - A.length))) ∧ Hid (OwnS wr w1.heap.size (.slice a2 n c2) L) ∧ Hid (KeX w wr s z (.slice a es.length c) nx) ∧ Hid (Below w1.heap.size w1 wr))
    case atStart => exact ⟨0, 0, false, none, 0, [], rfl, rfl, rfl, Nat.zero_le _, Nat.le_refl _, by omega, hide rfl, hide (.inl ⟨Nat.zero_le _, rfl, rfl⟩), hide (.inl ⟨rfl, rfl⟩), HX1, hide (Below.refl _ _)⟩
    case round =>
      obtain ⟨k, n, d, a2, c2, L, rfl, rfl, rfl, hk, hg, hnk, hn, hS, hO, hX, hB⟩ := hrel
      by_cases hlt : k < A.length + B.length
      · obtain ⟨y, hy⟩ : ∃ y, (A ++ B)[k]? = some y := ⟨_, List.getElem?_eq_getElem (by rw [unhide HAB]; exact hlt)⟩
        obtain ⟨b, off, cap, he, hb, q⟩ := unhide HR1 wr (unhide hB) k y hy
        simp only [Value.slice.injEq] at he
        obtain ⟨rfl, _, rfl⟩ := he
        have d0 := q.en0 hy
        have d1 := q.en1 hy
        have d2 := q.en2 hy
        have hbw : b < wr.heap.size := Nat.lt_of_lt_of_le hb (unhide hB).size
        have hal := allocB wr (.cells #[.string ⟨y.p.toArray⟩, .string ⟨y.d.toArray⟩, .bool y.t] 36)
        have X2 := (unhide hX).next hal
        have HX2 := hide X2
        have HB2 := hide (nnext (unhide hB) hal)
        have HO2 := hide ((unhide hO).next hal)
        have HY2 := hide (one_newC wr y)
        have hsz := (unhide hX).size
        have hz2 : (wr.alloc (.cells #[.string ⟨y.p.toArray⟩, .string ⟨y.d.toArray⟩, .bool y.t] 36)).heap.size = wr.heap.size + 1 := by simp
        have x0 := X2.one.e0
        have x1 := X2.one.e1
        have x2 := X2.one.e2
        have y0 := (unhide HY2).e0
        have y1 := (unhide HY2).e1
        have y2 := (unhide HY2).e2
        have hab := (unhide hO).above
        have HAB2 := hide hab
        have HNB : Hid (some wr.heap.size ≠ (Value.slice a2 n c2).ownBlock) := hide (fun e => by have := (unhide hO).low _ e.symm; omega)
        by_cases hkA : k < A.length
        · have hdf : d = false ∧ L = (A ++ B).take k := by
            rcases unhide hS with ⟨_, h1, h2⟩ | ⟨h, _⟩
            · exact ⟨h1, h2⟩
            · omega
          obtain ⟨rfl, hL⟩ := hdf
          have hbl : Op.bytesLess y.p nx.p = true := by
            have : y ∈ A := by rw [List.getElem?_append_left hkA] at hy; exact List.mem_of_getElem? hy
            rw [← unhide HNX, normE_p]; exact unhide HLo y this
          have HL2 : Hid (L ++ [y] = (A ++ B).take (k + 1)) := hide (by rw [hL, snoc_take hy])
          clear q hy hL X2 hab
          go_upto_region 8 with fail
          generalize wr.alloc (.cells #[.string ⟨y.p.toArray⟩, .string ⟨y.d.toArray⟩, .bool y.t] 36) = W2 at *
          have HO3 := hide ((unhide HO2).next (allocB W2 (.cells #[.string ⟨y.p.toArray⟩, .string ⟨y.d.toArray⟩, .bool y.t] 36)))
          have HX3 := hide ((unhide HX2).next (allocB W2 (.cells #[.string ⟨y.p.toArray⟩, .string ⟨y.d.toArray⟩, .bool y.t] 36)))
          have HB3 := hide (nnext (unhide HB2) (allocB W2 (.cells #[.string ⟨y.p.toArray⟩, .string ⟨y.d.toArray⟩, .bool y.t] 36)))
          have HN3 : Hid (OneR (W2.alloc (.cells #[.string ⟨y.p.toArray⟩, .string ⟨y.d.toArray⟩, .bool y.t] 36)) (wr.heap.size + 1) y) := hide (by rw [← hz2]; exact one_newC W2 y)
          go_wp2_with (at_builtin; refine wpList_appC (by kernel_rfl) _ _ rfl w1.heap.size (.slice a2 n c2) L rfl (unhide HO3) (unhide HB3).size (wr.heap.size + 1) rfl y (unhide HN3) (by rw [unhide hn]; omega) ?_)
          intro a3 c3 w3 ho3 hg3
          rw [unhide hn] at ho3 ⊢
          have HO4 := hide ho3
          have HX4 := hide ((unhide HX3).grown hg3 (fun j e => by have := unhide HAB2 j e; omega))
          have HB4 := hide ((unhide HB3).grown hg3 (unhide HB3).size (fun j e => unhide HAB2 j e))
          clear ho3 hg3
          go_wp2_with fail
          go_roundg (A.length + B.length - (k + 1))
          case measure => omega
          case rel => exact ⟨k + 1, n + 1, false, a3, c3, L ++ [y], rfl, rfl, rfl, by omega, Nat.le_refl _, by omega, hide (by rw [List.length_append, unhide hn]; rfl), hide (.inl ⟨by omega, rfl, unhide HL2⟩), HO4, HX4, HB4⟩
        · by_cases hkE : k = A.length
          · have hdf : d = false ∧ L = (A ++ B).take k := by
              rcases unhide hS with ⟨_, h1, h2⟩ | ⟨h, _⟩
              · exact ⟨h1, h2⟩
              · omega
            obtain ⟨rfl, hL⟩ := hdf
            have hyB : y ∈ B := by rw [List.getElem?_append_right (by omega)] at hy; exact List.mem_of_getElem? hy
            have hbl2 : bl nx.p y.p = true := by rw [← unhide HNX, normE_p]; exact unhide HHi y hyB
            have hbl : Op.bytesLess y.p nx.p = false := bl_asymm hbl2
            have hne : (y.p == nx.p) = false := by simpa using (bl_ne hbl2).symm
            have hLA : L = A := by rw [hL, hkE]; simp
            have hnA : n ≤ k := by rw [← unhide hn, hLA]; omega
            have HL2 : Hid (L ++ [nx] ++ [y] = A ++ nx :: B.take (k + 1 - A.length)) := hide (by
              have hy0 : B[0]? = some y := by rw [hkE, List.getElem?_append_right (Nat.le_refl _), Nat.sub_self] at hy; exact hy
              rw [hLA, hkE, show A.length + 1 - A.length = 0 + 1 by omega, snoc_take hy0]
              simp)
            clear q hy hL X2 hyB hbl2 hLA hab hkE
            go_upto_region 8 with fail
            generalize wr.alloc (.cells #[.string ⟨y.p.toArray⟩, .string ⟨y.d.toArray⟩, .bool y.t] 36) = W2 at *
            have HO3 := hide ((unhide HO2).next (allocB W2 (.cells #[.string ⟨nx.p.toArray⟩, .string ⟨nx.d.toArray⟩, .bool nx.t] 36)))
            have HX3 := hide ((unhide HX2).next (allocB W2 (.cells #[.string ⟨nx.p.toArray⟩, .string ⟨nx.d.toArray⟩, .bool nx.t] 36)))
            have HB3 := hide (nnext (unhide HB2) (allocB W2 (.cells #[.string ⟨nx.p.toArray⟩, .string ⟨nx.d.toArray⟩, .bool nx.t] 36)))
            have HY3 := hide ((unhide HY2).keptz (allocB W2 (.cells #[.string ⟨nx.p.toArray⟩, .string ⟨nx.d.toArray⟩, .bool nx.t] 36)) (unhide HY2).ltz)
            have HN3 : Hid (OneR (W2.alloc (.cells #[.string ⟨nx.p.toArray⟩, .string ⟨nx.d.toArray⟩, .bool nx.t] 36)) (wr.heap.size + 1) nx) := hide (by rw [← hz2]; exact one_newC W2 nx)
            go_wp2_with (at_builtin; refine wpList_appC (by kernel_rfl) _ _ rfl w1.heap.size (.slice a2 n c2) L rfl (unhide HO3) (unhide HB3).size (wr.heap.size + 1) rfl nx (unhide HN3) (by rw [unhide hn]; omega) ?_)
            intro a3 c3 w3 ho3 hg3
            rw [unhide hn] at ho3 ⊢
            obtain ⟨M, hM⟩ : ∃ M, L ++ [nx] = M := ⟨_, rfl⟩
            rw [hM] at ho3
            have HM := hide hM
            clear hM
            have HO4 := hide ho3
            have HX4 := hide ((unhide HX3).grown hg3 (fun j e => by have := unhide HAB2 j e; omega))
            have HB4 := hide ((unhide HB3).grown hg3 (unhide HB3).size (fun j e => unhide HAB2 j e))
            have hyl := (unhide HY3).ltz
            have HY4 : Hid (OneR w3 wr.heap.size y) := hide ((hg3.block _ hyl (fun e => unhide HNB e)).trans (unhide HY3))
            have y0 := (unhide HY4).e0
            have y1 := (unhide HY4).e1
            have y2 := (unhide HY4).e2
            have HAB3 := hide ho3.above
            clear ho3 hg3 x0 x1 x2
            have HO5 := hide ((unhide HO4).next (allocB w3 (.cells #[.string ⟨y.p.toArray⟩, .string ⟨y.d.toArray⟩, .bool y.t] 36)))
            have HX5 := hide ((unhide HX4).next (allocB w3 (.cells #[.string ⟨y.p.toArray⟩, .string ⟨y.d.toArray⟩, .bool y.t] 36)))
            have HB5 := hide (nnext (unhide HB4) (allocB w3 (.cells #[.string ⟨y.p.toArray⟩, .string ⟨y.d.toArray⟩, .bool y.t] 36)))
            have HN5 := hide (one_newC w3 y)
            have hn2 : M.length = n + 1 := by rw [← unhide HM, List.length_append, unhide hn]; rfl
            have HN2 := hide hn2
            clear hn2
            go_wp2_with (at_builtin; refine wpList_appC (by kernel_rfl) _ _ rfl w1.heap.size (.slice a3 (n + 1) c3) M rfl (unhide HO5) (unhide HB5).size w3.heap.size rfl y (unhide HN5) (by rw [unhide HN2]; omega) ?_)
            intro a4 c4 w4 ho4 hg4
            rw [unhide HN2] at ho4 ⊢
            have HO6 := hide ho4
            have HX6 := hide ((unhide HX5).grown hg4 (fun j e => by have := unhide HAB3 j e; omega))
            have HB6 := hide ((unhide HB5).grown hg4 (unhide HB5).size (fun j e => unhide HAB3 j e))
            clear ho4 hg4
            go_wp2_with fail
            go_roundg (A.length + B.length - (k + 1))
            case measure => omega
            case rel => exact ⟨k + 1, n + 1 + 1, true, a4, c4, M ++ [y], rfl, rfl, rfl, by omega, Nat.le_refl _, by omega, hide (by rw [List.length_append, unhide HN2]; rfl), hide (.inr ⟨by omega, rfl, by rw [← unhide HM]; exact unhide HL2⟩), HO6, HX6, HB6⟩
          · have hdf : d = true ∧ L = A ++ nx :: B.take (k - A.length) := by
              rcases unhide hS with ⟨h, _⟩ | ⟨_, h1, h2⟩
              · omega
              · exact ⟨h1, h2⟩
            obtain ⟨rfl, hL⟩ := hdf
            have HL2 : Hid (L ++ [y] = A ++ nx :: B.take (k + 1 - A.length)) := hide (by
              have hy0 : B[k - A.length]? = some y := by rw [List.getElem?_append_right (by omega)] at hy; exact hy
              rw [hL, show k + 1 - A.length = k - A.length + 1 by omega, snoc_take hy0]
              simp)
            clear q hy hL X2 hab
            go_upto_region 8 with fail
            generalize wr.alloc (.cells #[.string ⟨y.p.toArray⟩, .string ⟨y.d.toArray⟩, .bool y.t] 36) = W2 at *
            have HO3 := hide ((unhide HO2).next (allocB W2 (.cells #[.string ⟨y.p.toArray⟩, .string ⟨y.d.toArray⟩, .bool y.t] 36)))
            have HX3 := hide ((unhide HX2).next (allocB W2 (.cells #[.string ⟨y.p.toArray⟩, .string ⟨y.d.toArray⟩, .bool y.t] 36)))
            have HB3 := hide (nnext (unhide HB2) (allocB W2 (.cells #[.string ⟨y.p.toArray⟩, .string ⟨y.d.toArray⟩, .bool y.t] 36)))
            have HN3 : Hid (OneR (W2.alloc (.cells #[.string ⟨y.p.toArray⟩, .string ⟨y.d.toArray⟩, .bool y.t] 36)) (wr.heap.size + 1) y) := hide (by rw [← hz2]; exact one_newC W2 y)
            go_wp2_with (at_builtin; refine wpList_appC (by kernel_rfl) _ _ rfl w1.heap.size (.slice a2 n c2) L rfl (unhide HO3) (unhide HB3).size (wr.heap.size + 1) rfl y (unhide HN3) (by rw [unhide hn]; omega) ?_)
            intro a3 c3 w3 ho3 hg3
            rw [unhide hn] at ho3 ⊢
            have HO4 := hide ho3
            have HX4 := hide ((unhide HX3).grown hg3 (fun j e => by have := unhide HAB2 j e; omega))
            have HB4 := hide ((unhide HB3).grown hg3 (unhide HB3).size (fun j e => unhide HAB2 j e))
            clear ho3 hg3
            go_wp2_with fail
            go_roundg (A.length + B.length - (k + 1))
            case measure => omega
            case rel => exact ⟨k + 1, n + 1, true, a3, c3, L ++ [y], rfl, rfl, rfl, by omega, Nat.le_refl _, by omega, hide (by rw [List.length_append, unhide hn]; rfl), hide (.inr ⟨by omega, rfl, unhide HL2⟩), HO4, HX4, HB4⟩
      · obtain rfl : k = A.length + B.length := by omega
        have g0 := (unhide hX).box.c0
        have g1 := (unhide hX).box.c1
        have g2 := (unhide hX).box.c2
        have g3 := (unhide hX).box.fr 2
        have x0 := (unhide hX).one.e0
        have x1 := (unhide hX).one.e1
        have x2 := (unhide hX).one.e2
        have hsz := (unhide hX).size
        by_cases hB0 : B.length = 0
        · have hdf : d = false ∧ L = A := by
            have e0 : B = [] := List.eq_nil_of_length_eq_zero hB0
            subst e0
            rcases unhide hS with ⟨_, h1, h2⟩ | ⟨h, _⟩
            · exact ⟨h1, by rw [h2]; simp⟩
            · simp at h
          obtain ⟨rfl, hL⟩ := hdf
          have HD2 : Hid (D = L ++ [nx]) := hide (by rw [unhide HK, List.eq_nil_of_length_eq_zero hB0, hL])
          clear hL
          have HAB2 := hide (unhide hO).above
          have HO3 := hide ((unhide hO).next (allocB wr (.cells #[.string ⟨nx.p.toArray⟩, .string ⟨nx.d.toArray⟩, .bool nx.t] 36)))
          have HX3 := hide ((unhide hX).next (allocB wr (.cells #[.string ⟨nx.p.toArray⟩, .string ⟨nx.d.toArray⟩, .bool nx.t] 36)))
          have HB3 := hide (nnext (unhide hB) (allocB wr (.cells #[.string ⟨nx.p.toArray⟩, .string ⟨nx.d.toArray⟩, .bool nx.t] 36)))
          have HN3 := hide (one_newC wr nx)
          go_wp2_with (at_builtin; refine wpList_appC (by kernel_rfl) _ _ rfl w1.heap.size (.slice a2 n c2) L rfl (unhide HO3) (unhide HB3).size wr.heap.size rfl nx (unhide HN3) (by rw [unhide hn]; omega) ?_)
          intro a3 c3 w3 ho3 hg3
          rw [unhide hn] at ho3 ⊢
          have X4 := (unhide HX3).grown hg3 (fun j e => by have := unhide HAB2 j e; omega)
          have HD3 : Hid (D.length = n + 1) := hide (by rw [unhide HD2, List.length_append, unhide hn]; rfl)
          rw [← unhide HD2, ← unhide HD3] at ho3
          rw [← unhide HD3]
          clear hg3 g0 g1 g2 g3 x0 x1 x2 HX3 HB3 HO3 hO hX
          have W3' := X4.box.set2 (v' := .slice a3 D.length c3)
          have c2' := X4.box.c2
          have f2' := X4.box.fr 2
          have R3 := X4.res.other (a := ⟨w.heap.size, 2, none⟩) (by simp) (.slice a3 D.length c3)
          have B5 := X4.old.setCell (p := ⟨w.heap.size, 2, none⟩) (Nat.le_refl _) (.slice a3 D.length c3)
          have O5 := ho3.otherz (k := w.heap.size) (j := 2) (by omega) (.slice a3 D.length c3)
          have q0 := W3'.c0
          have q1 := W3'.c1
          have q2 := W3'.c2
          have r0 := R3.c0
          have r1 := R3.c1
          have r2 := R3.c2
          have t0 := R3.fr 0
          have t1 := R3.fr 1
          have t2 := R3.fr 2
          have HB5 := hide B5
          have HO5 := hide O5
          clear W3' R3 B5 O5 ho3 X4
          go_upto_region 15 with fail
          generalize w3.setCell ⟨w.heap.size, 2, none⟩ (.slice a3 D.length c3) = W6 at *
          go_wp2_with fail
          refine bodyPost_ret (v := .agg #[.int .i64 s, .int .i64 z, .slice a3 D.length c3]) (by simp [results, Try.results16, go_sem, r0, r1, r2]) rfl ⟨_, rfl, ?_, ?_⟩
          · exact ((((unhide HO5).otherz (by omega) _).otherz (by omega) _).otherz (by omega) _).lower (by omega)
          · exact (((unhide HB5).setCell (by simp only; omega) _).setCell (by simp only; omega) _).setCell (by simp only; omega) _
        · have hdf : d = true ∧ L = D := by
            rcases unhide hS with ⟨h, _⟩ | ⟨_, h1, h2⟩
            · omega
            · exact ⟨h1, by rw [h2, unhide HK, show A.length + B.length - A.length = B.length by omega, List.take_length]⟩
          obtain ⟨rfl, rfl⟩ := hdf
          have X4 := unhide hX
          have ho3 := unhide hO
          have hn' := unhide hn
          subst hn'
          clear g0 g1 g2 g3 x0 x1 x2 hO hX
          have W3' := X4.box.set2 (v' := .slice a2 L.length c2)
          have c2' := X4.box.c2
          have f2' := X4.box.fr 2
          have R3 := X4.res.other (a := ⟨w.heap.size, 2, none⟩) (by simp) (.slice a2 L.length c2)
          have B5 := X4.old.setCell (p := ⟨w.heap.size, 2, none⟩) (Nat.le_refl _) (.slice a2 L.length c2)
          have O5 := ho3.otherz (k := w.heap.size) (j := 2) (by omega) (.slice a2 L.length c2)
          have q0 := W3'.c0
          have q1 := W3'.c1
          have q2 := W3'.c2
          have r0 := R3.c0
          have r1 := R3.c1
          have r2 := R3.c2
          have t0 := R3.fr 0
          have t1 := R3.fr 1
          have t2 := R3.fr 2
          have HB5 := hide B5
          have HO5 := hide O5
          clear W3' R3 B5 O5 ho3 X4
          go_upto_region 15 with fail
          generalize wr.setCell ⟨w.heap.size, 2, none⟩ (.slice a2 L.length c2) = W6 at *
          go_wp2_with fail
          refine bodyPost_ret (v := .agg #[.int .i64 s, .int .i64 z, .slice a2 L.length c2]) (by simp [results, Try.results16, go_sem, r0, r1, r2]) rfl ⟨_, rfl, ?_, ?_⟩
          · exact ((((unhide HO5).otherz (by omega) _).otherz (by omega) _).otherz (by omega) _).lower (by omega)
          · exact (((unhide HB5).setCell (by simp only; omega) _).setCell (by simp only; omega) _).setCell (by simp only; omega) _
  | false =>
    obtain ⟨W, hW, B0, K0, K1, K2, hz⟩ := keep_new w s z (.slice a es.length c) ⟨x.p, [], false⟩
    have HX : Hid (KeX w W s z (.slice a es.length c) nx) := hide ⟨B0, K0, by rw [← unhide HNX, normE_no ht, ht]; exact K1, K2, by omega⟩
    clear B0 K0 K1 K2
    go_wp2_with fail
    rw [← hW]
    clear hW hz
    refine (CW _ (unhide HX).old).mono ?_
    rintro e w1 ⟨v1, rfl, ho1, hb1⟩
    have hzW := (unhide HX).size
    obtain ⟨a1, c1, rfl, _⟩ := ho1.slice
    have HX1 := hide ((unhide HX).next hb1)
    have hw1 := (unhide HX1).size
    have HR1 := hide (crow (ho1.seq))
    have HLL : Hid ((Value.slice a1 (A ++ B).length c1).ownBlock = (Value.slice a1 (A ++ B).length c1).ownBlock) := hide rfl
    rw [unhide HAB] at HR1 ⊢
    clear CW hb1 ho1 HX HLL
    go_wp2_with fail
    go_loopg [5, 6, 19] (A.length + B.length) (fun kx s5 s6 s19 wr => ∃ (k n : Nat) (d : Bool) (a2 : Option Addr) (c2 : Nat) (L : List En), s19 = .int .i64 k ∧ s6 = .bool d ∧ s5 = .slice a2 n c2 ∧ k ≤ A.length + B.length ∧ A.length + B.length - k ≤ kx ∧ n ≤ k + 1 ∧ Hid (L.length = n) ∧ Hid ((k ≤ A.length ∧ d = false ∧ L = (A ++ B).take k) ∨ (A.length < k ∧ d = true ∧ L = A ++ nx :: B.take (k - A.length))) ∧ Hid (OwnS wr w1.heap.size (.slice a2 n c2) L) ∧ Hid (KeX w wr s z (.slice a es.length c) nx) ∧ Hid (Below w1.heap.size w1 wr))
    case atStart => exact ⟨0, 0, false, none, 0, [], rfl, rfl, rfl, Nat.zero_le _, Nat.le_refl _, by omega, hide rfl, hide (.inl ⟨Nat.zero_le _, rfl, rfl⟩), hide (.inl ⟨rfl, rfl⟩), HX1, hide (Below.refl _ _)⟩
    case round =>
      obtain ⟨k, n, d, a2, c2, L, rfl, rfl, rfl, hk, hg, hnk, hn, hS, hO, hX, hB⟩ := hrel
      by_cases hlt : k < A.length + B.length
      · obtain ⟨y, hy⟩ : ∃ y, (A ++ B)[k]? = some y := ⟨_, List.getElem?_eq_getElem (by rw [unhide HAB]; exact hlt)⟩
        obtain ⟨b, off, cap, he, hb, q⟩ := unhide HR1 wr (unhide hB) k y hy
        simp only [Value.slice.injEq] at he
        obtain ⟨rfl, _, rfl⟩ := he
        have d0 := q.en0 hy
        have d1 := q.en1 hy
        have d2 := q.en2 hy
        have hbw : b < wr.heap.size := Nat.lt_of_lt_of_le hb (unhide hB).size
        have hal := allocB wr (.cells #[.string ⟨y.p.toArray⟩, .string ⟨y.d.toArray⟩, .bool y.t] 36)
        have X2 := (unhide hX).next hal
        have HX2 := hide X2
        have HB2 := hide (nnext (unhide hB) hal)
        have HO2 := hide ((unhide hO).next hal)
        have HY2 := hide (one_newC wr y)
        have hsz := (unhide hX).size
        have hz2 : (wr.alloc (.cells #[.string ⟨y.p.toArray⟩, .string ⟨y.d.toArray⟩, .bool y.t] 36)).heap.size = wr.heap.size + 1 := by simp
        have x0 := X2.one.e0
        have x1 := X2.one.e1
        have x2 := X2.one.e2
        have y0 := (unhide HY2).e0
        have y1 := (unhide HY2).e1
        have y2 := (unhide HY2).e2
        have hab := (unhide hO).above
        have HAB2 := hide hab
        have HNB : Hid (some wr.heap.size ≠ (Value.slice a2 n c2).ownBlock) := hide (fun e => by have := (unhide hO).low _ e.symm; omega)
        by_cases hkA : k < A.length
        · have hdf : d = false ∧ L = (A ++ B).take k := by
            rcases unhide hS with ⟨_, h1, h2⟩ | ⟨h, _⟩
            · exact ⟨h1, h2⟩
            · omega
          obtain ⟨rfl, hL⟩ := hdf
          have hbl : Op.bytesLess y.p nx.p = true := by
            have : y ∈ A := by rw [List.getElem?_append_left hkA] at hy; exact List.mem_of_getElem? hy
            rw [← unhide HNX, normE_p]; exact unhide HLo y this
          have HL2 : Hid (L ++ [y] = (A ++ B).take (k + 1)) := hide (by rw [hL, snoc_take hy])
          clear q hy hL X2 hab
          go_upto_region 8 with fail
          generalize wr.alloc (.cells #[.string ⟨y.p.toArray⟩, .string ⟨y.d.toArray⟩, .bool y.t] 36) = W2 at *
          have HO3 := hide ((unhide HO2).next (allocB W2 (.cells #[.string ⟨y.p.toArray⟩, .string ⟨y.d.toArray⟩, .bool y.t] 36)))
          have HX3 := hide ((unhide HX2).next (allocB W2 (.cells #[.string ⟨y.p.toArray⟩, .string ⟨y.d.toArray⟩, .bool y.t] 36)))
          have HB3 := hide (nnext (unhide HB2) (allocB W2 (.cells #[.string ⟨y.p.toArray⟩, .string ⟨y.d.toArray⟩, .bool y.t] 36)))
          have HN3 : Hid (OneR (W2.alloc (.cells #[.string ⟨y.p.toArray⟩, .string ⟨y.d.toArray⟩, .bool y.t] 36)) (wr.heap.size + 1) y) := hide (by rw [← hz2]; exact one_newC W2 y)
          go_wp2_with (at_builtin; refine wpList_appC (by kernel_rfl) _ _ rfl w1.heap.size (.slice a2 n c2) L rfl (unhide HO3) (unhide HB3).size (wr.heap.size + 1) rfl y (unhide HN3) (by rw [unhide hn]; omega) ?_)
          intro a3 c3 w3 ho3 hg3
          rw [unhide hn] at ho3 ⊢
          have HO4 := hide ho3
          have HX4 := hide ((unhide HX3).grown hg3 (fun j e => by have := unhide HAB2 j e; omega))
          have HB4 := hide ((unhide HB3).grown hg3 (unhide HB3).size (fun j e => unhide HAB2 j e))
          clear ho3 hg3
          go_wp2_with fail
          go_roundg (A.length + B.length - (k + 1))
          case measure => omega
          case rel => exact ⟨k + 1, n + 1, false, a3, c3, L ++ [y], rfl, rfl, rfl, by omega, Nat.le_refl _, by omega, hide (by rw [List.length_append, unhide hn]; rfl), hide (.inl ⟨by omega, rfl, unhide HL2⟩), HO4, HX4, HB4⟩
        · by_cases hkE : k = A.length
          · have hdf : d = false ∧ L = (A ++ B).take k := by
              rcases unhide hS with ⟨_, h1, h2⟩ | ⟨h, _⟩
              · exact ⟨h1, h2⟩
              · omega
            obtain ⟨rfl, hL⟩ := hdf
            have hyB : y ∈ B := by rw [List.getElem?_append_right (by omega)] at hy; exact List.mem_of_getElem? hy
            have hbl2 : bl nx.p y.p = true := by rw [← unhide HNX, normE_p]; exact unhide HHi y hyB
            have hbl : Op.bytesLess y.p nx.p = false := bl_asymm hbl2
            have hne : (y.p == nx.p) = false := by simpa using (bl_ne hbl2).symm
            have hLA : L = A := by rw [hL, hkE]; simp
            have hnA : n ≤ k := by rw [← unhide hn, hLA]; omega
            have HL2 : Hid (L ++ [nx] ++ [y] = A ++ nx :: B.take (k + 1 - A.length)) := hide (by
              have hy0 : B[0]? = some y := by rw [hkE, List.getElem?_append_right (Nat.le_refl _), Nat.sub_self] at hy; exact hy
              rw [hLA, hkE, show A.length + 1 - A.length = 0 + 1 by omega, snoc_take hy0]
              simp)
            clear q hy hL X2 hyB hbl2 hLA hab hkE
            go_upto_region 8 with fail
            generalize wr.alloc (.cells #[.string ⟨y.p.toArray⟩, .string ⟨y.d.toArray⟩, .bool y.t] 36) = W2 at *
            have HO3 := hide ((unhide HO2).next (allocB W2 (.cells #[.string ⟨nx.p.toArray⟩, .string ⟨nx.d.toArray⟩, .bool nx.t] 36)))
            have HX3 := hide ((unhide HX2).next (allocB W2 (.cells #[.string ⟨nx.p.toArray⟩, .string ⟨nx.d.toArray⟩, .bool nx.t] 36)))
            have HB3 := hide (nnext (unhide HB2) (allocB W2 (.cells #[.string ⟨nx.p.toArray⟩, .string ⟨nx.d.toArray⟩, .bool nx.t] 36)))
            have HY3 := hide ((unhide HY2).keptz (allocB W2 (.cells #[.string ⟨nx.p.toArray⟩, .string ⟨nx.d.toArray⟩, .bool nx.t] 36)) (unhide HY2).ltz)
            have HN3 : Hid (OneR (W2.alloc (.cells #[.string ⟨nx.p.toArray⟩, .string ⟨nx.d.toArray⟩, .bool nx.t] 36)) (wr.heap.size + 1) nx) := hide (by rw [← hz2]; exact one_newC W2 nx)
            go_wp2_with (at_builtin; refine wpList_appC (by kernel_rfl) _ _ rfl w1.heap.size (.slice a2 n c2) L rfl (unhide HO3) (unhide HB3).size (wr.heap.size + 1) rfl nx (unhide HN3) (by rw [unhide hn]; omega) ?_)
            intro a3 c3 w3 ho3 hg3
            rw [unhide hn] at ho3 ⊢
            obtain ⟨M, hM⟩ : ∃ M, L ++ [nx] = M := ⟨_, rfl⟩
            rw [hM] at ho3
            have HM := hide hM
            clear hM
            have HO4 := hide ho3
            have HX4 := hide ((unhide HX3).grown hg3 (fun j e => by have := unhide HAB2 j e; omega))
            have HB4 := hide ((unhide HB3).grown hg3 (unhide HB3).size (fun j e => unhide HAB2 j e))
            have hyl := (unhide HY3).ltz
            have HY4 : Hid (OneR w3 wr.heap.size y) := hide ((hg3.block _ hyl (fun e => unhide HNB e)).trans (unhide HY3))
            have y0 := (unhide HY4).e0
            have y1 := (unhide HY4).e1
            have y2 := (unhide HY4).e2
            have HAB3 := hide ho3.above
            clear ho3 hg3 x0 x1 x2
            have HO5 := hide ((unhide HO4).next (allocB w3 (.cells #[.string ⟨y.p.toArray⟩, .string ⟨y.d.toArray⟩, .bool y.t] 36)))
            have HX5 := hide ((unhide HX4).next (allocB w3 (.cells #[.string ⟨y.p.toArray⟩, .string ⟨y.d.toArray⟩, .bool y.t] 36)))
            have HB5 := hide (nnext (unhide HB4) (allocB w3 (.cells #[.string ⟨y.p.toArray⟩, .string ⟨y.d.toArray⟩, .bool y.t] 36)))
            have HN5 := hide (one_newC w3 y)
            have hn2 : M.length = n + 1 := by rw [← unhide HM, List.length_append, unhide hn]; rfl
            have HN2 := hide hn2
            clear hn2
            go_wp2_with (at_builtin; refine wpList_appC (by kernel_rfl) _ _ rfl w1.heap.size (.slice a3 (n + 1) c3) M rfl (unhide HO5) (unhide HB5).size w3.heap.size rfl y (unhide HN5) (by rw [unhide HN2]; omega) ?_)
            intro a4 c4 w4 ho4 hg4
            rw [unhide HN2] at ho4 ⊢
            have HO6 := hide ho4
            have HX6 := hide ((unhide HX5).grown hg4 (fun j e => by have := unhide HAB3 j e; omega))
            have HB6 := hide ((unhide HB5).grown hg4 (unhide HB5).size (fun j e => unhide HAB3 j e))
            clear ho4 hg4
            go_wp2_with fail
            go_roundg (A.length + B.length - (k + 1))
            case measure => omega
            case rel => exact ⟨k + 1, n + 1 + 1, true, a4, c4, M ++ [y], rfl, rfl, rfl, by omega, Nat.le_refl _, by omega, hide (by rw [List.length_append, unhide HN2]; rfl), hide (.inr ⟨by omega, rfl, by rw [← unhide HM]; exact unhide HL2⟩), HO6, HX6, HB6⟩
          · have hdf : d = true ∧ L = A ++ nx :: B.take (k - A.length) := by
              rcases unhide hS with ⟨h, _⟩ | ⟨_, h1, h2⟩
              · omega
              · exact ⟨h1, h2⟩
            obtain ⟨rfl, hL⟩ := hdf
            have HL2 : Hid (L ++ [y] = A ++ nx :: B.take (k + 1 - A.length)) := hide (by
              have hy0 : B[k - A.length]? = some y := by rw [List.getElem?_append_right (by omega)] at hy; exact hy
              rw [hL, show k + 1 - A.length = k - A.length + 1 by omega, snoc_take hy0]
              simp)
            clear q hy hL X2 hab
            go_upto_region 8 with fail
            generalize wr.alloc (.cells #[.string ⟨y.p.toArray⟩, .string ⟨y.d.toArray⟩, .bool y.t] 36) = W2 at *
            have HO3 := hide ((unhide HO2).next (allocB W2 (.cells #[.string ⟨y.p.toArray⟩, .string ⟨y.d.toArray⟩, .bool y.t] 36)))
            have HX3 := hide ((unhide HX2).next (allocB W2 (.cells #[.string ⟨y.p.toArray⟩, .string ⟨y.d.toArray⟩, .bool y.t] 36)))
            have HB3 := hide (nnext (unhide HB2) (allocB W2 (.cells #[.string ⟨y.p.toArray⟩, .string ⟨y.d.toArray⟩, .bool y.t] 36)))
            have HN3 : Hid (OneR (W2.alloc (.cells #[.string ⟨y.p.toArray⟩, .string ⟨y.d.toArray⟩, .bool y.t] 36)) (wr.heap.size + 1) y) := hide (by rw [← hz2]; exact one_newC W2 y)
            go_wp2_with (at_builtin; refine wpList_appC (by kernel_rfl) _ _ rfl w1.heap.size (.slice a2 n c2) L rfl (unhide HO3) (unhide HB3).size (wr.heap.size + 1) rfl y (unhide HN3) (by rw [unhide hn]; omega) ?_)
            intro a3 c3 w3 ho3 hg3
            rw [unhide hn] at ho3 ⊢
            have HO4 := hide ho3
            have HX4 := hide ((unhide HX3).grown hg3 (fun j e => by have := unhide HAB2 j e; omega))
            have HB4 := hide ((unhide HB3).grown hg3 (unhide HB3).size (fun j e => unhide HAB2 j e))
            clear ho3 hg3
            go_wp2_with fail
            go_roundg (A.length + B.length - (k + 1))
            case measure => omega
            case rel => exact ⟨k + 1, n + 1, true, a3, c3, L ++ [y], rfl, rfl, rfl, by omega, Nat.le_refl _, by omega, hide (by rw [List.length_append, unhide hn]; rfl), hide (.inr ⟨by omega, rfl, unhide HL2⟩), HO4, HX4, HB4⟩
      · obtain rfl : k = A.length + B.length := by omega
        have g0 := (unhide hX).box.c0
        have g1 := (unhide hX).box.c1
        have g2 := (unhide hX).box.c2
        have g3 := (unhide hX).box.fr 2
        have x0 := (unhide hX).one.e0
        have x1 := (unhide hX).one.e1
        have x2 := (unhide hX).one.e2
        have hsz := (unhide hX).size
        by_cases hB0 : B.length = 0
        · have hdf : d = false ∧ L = A := by
            have e0 : B = [] := List.eq_nil_of_length_eq_zero hB0
            subst e0
            rcases unhide hS with ⟨_, h1, h2⟩ | ⟨h, _⟩
            · exact ⟨h1, by rw [h2]; simp⟩
            · simp at h
          obtain ⟨rfl, hL⟩ := hdf
          have HD2 : Hid (D = L ++ [nx]) := hide (by rw [unhide HK, List.eq_nil_of_length_eq_zero hB0, hL])
          clear hL
          have HAB2 := hide (unhide hO).above
          have HO3 := hide ((unhide hO).next (allocB wr (.cells #[.string ⟨nx.p.toArray⟩, .string ⟨nx.d.toArray⟩, .bool nx.t] 36)))
          have HX3 := hide ((unhide hX).next (allocB wr (.cells #[.string ⟨nx.p.toArray⟩, .string ⟨nx.d.toArray⟩, .bool nx.t] 36)))
          have HB3 := hide (nnext (unhide hB) (allocB wr (.cells #[.string ⟨nx.p.toArray⟩, .string ⟨nx.d.toArray⟩, .bool nx.t] 36)))
          have HN3 := hide (one_newC wr nx)
          go_wp2_with (at_builtin; refine wpList_appC (by kernel_rfl) _ _ rfl w1.heap.size (.slice a2 n c2) L rfl (unhide HO3) (unhide HB3).size wr.heap.size rfl nx (unhide HN3) (by rw [unhide hn]; omega) ?_)
          intro a3 c3 w3 ho3 hg3
          rw [unhide hn] at ho3 ⊢
          have X4 := (unhide HX3).grown hg3 (fun j e => by have := unhide HAB2 j e; omega)
          have HD3 : Hid (D.length = n + 1) := hide (by rw [unhide HD2, List.length_append, unhide hn]; rfl)
          rw [← unhide HD2, ← unhide HD3] at ho3
          rw [← unhide HD3]
          clear hg3 g0 g1 g2 g3 x0 x1 x2 HX3 HB3 HO3 hO hX
          have W3' := X4.box.set2 (v' := .slice a3 D.length c3)
          have c2' := X4.box.c2
          have f2' := X4.box.fr 2
          have R3 := X4.res.other (a := ⟨w.heap.size, 2, none⟩) (by simp) (.slice a3 D.length c3)
          have B5 := X4.old.setCell (p := ⟨w.heap.size, 2, none⟩) (Nat.le_refl _) (.slice a3 D.length c3)
          have O5 := ho3.otherz (k := w.heap.size) (j := 2) (by omega) (.slice a3 D.length c3)
          have q0 := W3'.c0
          have q1 := W3'.c1
          have q2 := W3'.c2
          have r0 := R3.c0
          have r1 := R3.c1
          have r2 := R3.c2
          have t0 := R3.fr 0
          have t1 := R3.fr 1
          have t2 := R3.fr 2
          have HB5 := hide B5
          have HO5 := hide O5
          clear W3' R3 B5 O5 ho3 X4
          go_upto_region 15 with fail
          generalize w3.setCell ⟨w.heap.size, 2, none⟩ (.slice a3 D.length c3) = W6 at *
          go_wp2_with fail
          refine bodyPost_ret (v := .agg #[.int .i64 s, .int .i64 z, .slice a3 D.length c3]) (by simp [results, Try.results16, go_sem, r0, r1, r2]) rfl ⟨_, rfl, ?_, ?_⟩
          · exact ((((unhide HO5).otherz (by omega) _).otherz (by omega) _).otherz (by omega) _).lower (by omega)
          · exact (((unhide HB5).setCell (by simp only; omega) _).setCell (by simp only; omega) _).setCell (by simp only; omega) _
        · have hdf : d = true ∧ L = D := by
            rcases unhide hS with ⟨h, _⟩ | ⟨_, h1, h2⟩
            · omega
            · exact ⟨h1, by rw [h2, unhide HK, show A.length + B.length - A.length = B.length by omega, List.take_length]⟩
          obtain ⟨rfl, rfl⟩ := hdf
          have X4 := unhide hX
          have ho3 := unhide hO
          have hn' := unhide hn
          subst hn'
          clear g0 g1 g2 g3 x0 x1 x2 hO hX
          have W3' := X4.box.set2 (v' := .slice a2 L.length c2)
          have c2' := X4.box.c2
          have f2' := X4.box.fr 2
          have R3 := X4.res.other (a := ⟨w.heap.size, 2, none⟩) (by simp) (.slice a2 L.length c2)
          have B5 := X4.old.setCell (p := ⟨w.heap.size, 2, none⟩) (Nat.le_refl _) (.slice a2 L.length c2)
          have O5 := ho3.otherz (k := w.heap.size) (j := 2) (by omega) (.slice a2 L.length c2)
          have q0 := W3'.c0
          have q1 := W3'.c1
          have q2 := W3'.c2
          have r0 := R3.c0
          have r1 := R3.c1
          have r2 := R3.c2
          have t0 := R3.fr 0
          have t1 := R3.fr 1
          have t2 := R3.fr 2
          have HB5 := hide B5
          have HO5 := hide O5
          clear W3' R3 B5 O5 ho3 X4
          go_upto_region 15 with fail
          generalize wr.setCell ⟨w.heap.size, 2, none⟩ (.slice a2 L.length c2) = W6 at *
          go_wp2_with fail
          refine bodyPost_ret (v := .agg #[.int .i64 s, .int .i64 z, .slice a2 L.length c2]) (by simp [results, Try.results16, go_sem, r0, r1, r2]) rfl ⟨_, rfl, ?_, ?_⟩
          · exact ((((unhide HO5).otherz (by omega) _).otherz (by omega) _).otherz (by omega) _).lower (by omega)
          · exact (((unhide HB5).setCell (by simp only; omega) _).setCell (by simp only; omega) _).setCell (by simp only; omega) _

theorem tell_yes {s : Int} {l : List Nt} {es : List En} {k : Nat} {n : Nt} (h : l[k]? = some n) (h1 : n.s = s) (h2 : n.k ≠ 4) : tellE s (l.take (k + 1)) es = woE (tellE s (l.take k) es) n.p := by
  unfold tellE woE
  rw [List.filter_filter]
  congr 1
  funext x
  rw [snoc_take h]
  by_cases hp : n.p = x.p
  · simp [toldE, List.any_append, h1, h2, hp]
  · have hp' : ¬ x.p = n.p := fun e => hp e.symm
    simp [toldE, List.any_append, hp, hp']
theorem tell_no {s : Int} {l : List Nt} {es : List En} {k : Nat} {n : Nt} (h : l[k]? = some n) (h1 : n.s ≠ s ∨ n.k = 4) : tellE s (l.take (k + 1)) es = tellE s (l.take k) es := by
  unfold tellE
  congr 1
  funext x
  rw [snoc_take h]
  rcases h1 with h1 | h1 <;> simp [toldE, List.any_append, h1]

set_option maxRecDepth 10000 in
set_option maxHeartbeats 4000000 in
theorem rtell_any (s z : Int) (v vl : Value) (es : List En) (l : List Nt) (w : World) (hv : SeqV w v es) (hl : (es.length + 1) * 40 ≤ 140737488355328) (hvl : SeqV w vl l) (hll : l.length * 32 ≤ 140737488355328) :
    Calls Try.prog 20 #[clV s z v, vl] w fun e w' => ∃ v', e = .returned (clV s z v') ∧ OwnS w' w.heap.size v' (tellE s l es) ∧ Below w.heap.size w w' := by
  have CC := fun W (hW : Below w.heap.size w W) => rcopyC_any s z v es W (hv.next hW) (by omega)
  have CW := hide (fun W u ys p (hu : SeqV W u ys) (hy : ys.length ≤ es.length) => rwithout_any u ys p W hu (by omega))
  have KR := hide (crow hvl)
  obtain ⟨a, c, rfl⟩ := seq_slice hv
  obtain ⟨al, cl, rfl⟩ := seq_slice hvl
  unfold clV at CC ⊢
  clear hv hvl
  have B0 : Below w.heap.size w ((w.alloc (.cells #[.int .i64 s, .int .i64 z, .slice a es.length c] 24)).alloc (.cells #[.int .i64 0, .int .i64 0, .slice none 0 0] 24)) := nnext (allocB _ _) (allocB _ _)
  have X0 := (CBox.new w s z (.slice a es.length c)).next (allocB _ (.cells #[.int .i64 0, .int .i64 0, .slice none 0 0] 24))
  have X1 := CBox.new (w.alloc (.cells #[.int .i64 s, .int .i64 z, .slice a es.length c] 24)) 0 0 (.slice none 0 0)
  have hz0 : ((w.alloc (.cells #[.int .i64 s, .int .i64 z, .slice a es.length c] 24)).alloc (.cells #[.int .i64 0, .int .i64 0, .slice none 0 0] 24)).heap.size = w.heap.size + 2 := by simp
  rw [show (w.alloc (.cells #[.int .i64 s, .int .i64 z, .slice a es.length c] 24)).heap.size = w.heap.size + 1 by simp] at X1
  have HB0 := hide B0
  have HX0 := hide X0
  have HX1 := hide X1
  clear B0 X0 X1
  go_enter Try.func20, Try.ntmps20
  go_wp2_with fail
  generalize (w.alloc (.cells #[.int .i64 s, .int .i64 z, .slice a es.length c] 24)).alloc (.cells #[.int .i64 0, .int .i64 0, .slice none 0 0] 24) = W0 at *
  refine (CC _ (unhide HB0)).mono ?_
  rintro e w1 ⟨v1, rfl, ho1, hb1⟩
  obtain ⟨a1, c1, rfl, _⟩ := ho1.slice
  have hz1 := hb1.size
  have Y0 := (unhide HX0).next hb1
  have p0 := Y0.c0
  have p1 := Y0.c1
  have p2 := Y0.c2
  have f0 := Y0.fr 0
  have f1 := Y0.fr 1
  have f2 := Y0.fr 2
  have s0 := nset_same p0
  have s1 := nset_same p1
  have HZ0 := hide (Y0.set2 (v' := .slice a1 es.length c1))
  have HZ1 := hide (((unhide HX1).next hb1).other (a := ⟨w.heap.size, 2, none⟩) (by simp) (.slice a1 es.length c1))
  have HB1 := hide ((nnext (unhide HB0) hb1).setCell (p := ⟨w.heap.size, 2, none⟩) (by simp) (.slice a1 es.length c1))
  have HO1 := hide (ho1.otherz (k := w.heap.size) (j := 2) (by omega) (.slice a1 es.length c1))
  have hz2 : (w1.setCell ⟨w.heap.size, 2, none⟩ (.slice a1 es.length c1)).heap.size = w1.heap.size := by simp [World.setCell]
  rw [hz0] at HO1
  clear CC ho1 hb1 Y0
  go_upto_region 2 with fail
  clear p0 p1 p2 f0 f1 f2 s0 s1
  generalize w1.setCell ⟨w.heap.size, 2, none⟩ (.slice a1 es.length c1) = W at *
  go_wp2_with fail
  go_loopg [11] l.length (fun kx s11 wr => ∃ (k n : Nat) (a2 : Option Addr) (c2 : Nat), s11 = .int .i64 k ∧ k ≤ l.length ∧ l.length - k ≤ kx ∧ n ≤ es.length ∧ Hid ((tellE s (l.take k) es).length = n) ∧ Hid (CBox wr w.heap.size s z (.slice a2 n c2)) ∧ Hid (CBox wr (w.heap.size + 1) 0 0 (.slice none 0 0)) ∧ Hid (OwnS wr (w.heap.size + 2) (.slice a2 n c2) (tellE s (l.take k) es)) ∧ Hid (Below w.heap.size w wr ∧ w.heap.size + 2 ≤ wr.heap.size))
  case atStart => exact ⟨0, es.length, a1, c1, rfl, Nat.zero_le _, Nat.le_refl _, Nat.le_refl _, hide (by rw [List.take_zero, tell_nil]), HZ0, HZ1, hide (by rw [List.take_zero, tell_nil]; exact unhide HO1), hide ⟨unhide HB1, by omega⟩⟩
  case round =>
    obtain ⟨k, n, a2, c2, rfl, hk, hg, hne, hn, hX0, hX1, hO, hB⟩ := hrel
    by_cases hlt : k < l.length
    · obtain ⟨x, hx⟩ : ∃ x, l[k]? = some x := ⟨_, List.getElem?_eq_getElem hlt⟩
      obtain ⟨b, off, cap, he, hb, q⟩ := unhide KR wr (unhide hB).1 k x hx
      simp only [Value.slice.injEq] at he
      obtain ⟨rfl, _, rfl⟩ := he
      have d0 := q.t0 hx
      have d1 := q.t1 hx
      have d2 := q.t2 hx
      have hbw : b < wr.heap.size := Nat.lt_of_lt_of_le hb (unhide hB).1.size
      have hwz := (unhide hB).2
      have hal := allocB wr (.cells #[.int .i64 x.s, .int .i64 x.k, .string ⟨x.p.toArray⟩] 48)
      have Y0 := (unhide hX0).next hal
      have g0 := Y0.c0
      have g2 := Y0.c2
      have HY0 := hide Y0
      have HY1 := hide ((unhide hX1).next hal)
      have HOn := hide ((unhide hO).next hal)
      have HBn : Hid (Below w.heap.size w (wr.alloc (.cells #[.int .i64 x.s, .int .i64 x.k, .string ⟨x.p.toArray⟩] 48)) ∧ w.heap.size + 2 ≤ (wr.alloc (.cells #[.int .i64 x.s, .int .i64 x.k, .string ⟨x.p.toArray⟩] 48)).heap.size) := hide ⟨nnext (unhide hB).1 hal, Nat.le_trans hwz hal.size⟩
      clear Y0 hal
      by_cases h1 : x.s = s
      · have e1 : (x.s == s) = true := by simpa using h1
        by_cases h2 : x.k = 4
        · have e2 : (x.k != 4) = false := by simp [h2]
          have HE := hide (tell_no (es := es) hx (s := s) (.inr h2))
          clear q hx h1 h2
          go_wp2_with fail
          go_roundg (l.length - (k + 1))
          case measure => omega
          case rel => exact ⟨k + 1, n, a2, c2, rfl, by omega, Nat.le_refl _, hne, by rw [unhide HE]; exact hn, HY0, HY1, by rw [unhide HE]; exact HOn, HBn⟩
        · have e2 : (x.k != 4) = true := by simp [h2]
          have HE := hide (tell_yes (es := es) hx h1 h2)
          have hwl : (woE (tellE s (l.take k) es) x.p).length ≤ es.length := Nat.le_trans (wo_len _ _) (by rw [unhide hn]; exact hne)
          have CX := unhide CW (wr.alloc (.cells #[.int .i64 x.s, .int .i64 x.k, .string ⟨x.p.toArray⟩] 48)) (.slice a2 n c2) (tellE s (l.take k) es) x.p (unhide HOn).seq (by rw [unhide hn]; exact hne)
          have HW := hide hwl
          clear q hx h1 h2 hwl
          go_wp2_with fail
          generalize wr.alloc (.cells #[.int .i64 x.s, .int .i64 x.k, .string ⟨x.p.toArray⟩] 48) = W2 at *
          refine CX.mono ?_
          rintro e w3 ⟨v3, rfl, ho3, hb3⟩
          rw [← unhide HE] at ho3 HW
          obtain ⟨a3, c3, rfl, _⟩ := ho3.slice
          have Z0 := (unhide HY0).next hb3
          have z2 := Z0.c2
          have z3 := Z0.fr 2
          have HZ0 := hide (Z0.set2 (v' := .slice a3 (tellE s (l.take (k + 1)) es).length c3))
          have HZ1 := hide (((unhide HY1).next hb3).other (a := ⟨w.heap.size, 2, none⟩) (by simp) (.slice a3 (tellE s (l.take (k + 1)) es).length c3))
          have HO3 := hide ((ho3.lower (unhide HBn).2).otherz (k := w.heap.size) (j := 2) (by omega) (.slice a3 (tellE s (l.take (k + 1)) es).length c3))
          have HB3 : Hid (Below w.heap.size w (w3.setCell ⟨w.heap.size, 2, none⟩ (.slice a3 (tellE s (l.take (k + 1)) es).length c3)) ∧ w.heap.size + 2 ≤ (w3.setCell ⟨w.heap.size, 2, none⟩ (.slice a3 (tellE s (l.take (k + 1)) es).length c3)).heap.size) := hide ⟨(nnext (unhide HBn).1 hb3).setCell (by simp) _, by have := hb3.size; have := (unhide HBn).2; simp [World.setCell]; omega⟩
          clear CX ho3 hb3 Z0
          go_wp2_with fail
          go_roundg (l.length - (k + 1))
          case measure => omega
          case rel => exact ⟨k + 1, _, a3, c3, rfl, by omega, Nat.le_refl _, unhide HW, hide rfl, HZ0, HZ1, HO3, HB3⟩
      · have e1 : (x.s == s) = false := by simpa using h1
        have HE := hide (tell_no (es := es) hx (s := s) (.inl h1))
        clear q hx h1
        go_wp2_with fail
        go_roundg (l.length - (k + 1))
        case measure => omega
        case rel => exact ⟨k + 1, n, a2, c2, rfl, by omega, Nat.le_refl _, hne, by rw [unhide HE]; exact hn, HY0, HY1, by rw [unhide HE]; exact HOn, HBn⟩
    · obtain rfl : k = l.length := by omega
      rw [List.take_length] at hO
      have g0 := (unhide hX0).c0
      have g1 := (unhide hX0).c1
      have g2 := (unhide hX0).c2
      have r0 := (unhide hX1).c0
      have r1 := (unhide hX1).c1
      have r2 := (unhide hX1).c2
      have t0 := (unhide hX1).fr 0
      have t1 := (unhide hX1).fr 1
      have t2 := (unhide hX1).fr 2
      go_wp2_with fail
      refine bodyPost_ret (v := .agg #[.int .i64 s, .int .i64 z, .slice a2 n c2]) (by simp [results, Try.results20, go_sem, r0, r1, r2]) rfl ⟨_, rfl, ?_, ?_⟩
      · exact ((((unhide hO).otherz (by omega) _).otherz (by omega) _).otherz (by omega) _).lower (by omega)
      · exact (((unhide hB).1.setCell (by simp) _).setCell (by simp) _).setCell (by simp) _
end Go.Proofs.Ytdefdbejaabpdaa

namespace Go.Proofs.Ytdefdbejaabpdaa
open Go.RowKit

section
variable {P : Program} {ops : Array Oper} {Q : Exit → Act → World → Prop} {md : Region.Mode} {S : World → Prop} {g : Nat}
/-- whatever order is picked from here on; S holds as long as the gate has not come up -/
def wpAnyK (P : Program) (md : Region.Mode) (ops : Array Oper) (Q : Exit → Act → World → Prop) (S : World → Prop) (g : Nat) : Nat → Array Bool → Act → World → Prop
  | 0, listed, a, w => Region.ready md ops listed = [] ∧ Q .normal a w
  | fuel + 1, listed, a, w =>
    (Region.ready md ops listed = [] → Q .normal a w) ∧
    ∀ i ∈ Region.ready md ops listed, wpOp P ops Q i (fun a' w' => ((listed.setIfInBounds i true).getD g true = false → S w') ∧ wpAnyK P md ops Q S g fuel (listed.setIfInBounds i true) a' w') a w
theorem wpAny_of_K : ∀ (fuel : Nat) (listed : Array Bool) (a : Act) (w : World), wpAnyK P md ops Q S g fuel listed a w → wpAny P md ops Q fuel listed a w
  | 0, _, _, _, h => h
  | fuel + 1, _, _, _, h => ⟨h.1, fun i hi => wpOp_mono (fun a' w' h' => wpAny_of_K fuel _ a' w' h'.2) (h.2 i hi)⟩

/-- j waits for i, by so many steps at most -/
def waitsOn (md : Region.Mode) (ops : Array Oper) : Nat → Nat → Nat → Bool
  | 0, _, _ => false
  | f + 1, j, i => match ops[j]? with
    | some o => o.after.any fun e => Region.binds md e && (e.on == i || waitsOn md ops f e.on i)
    | none => false
/-- who has come up has waited for those that it waits for -/
def Closed (md : Region.Mode) (ops : Array Oper) (listed : Array Bool) : Prop :=
  ∀ j o, ops[j]? = some o → listed.getD j true = true → ∀ e ∈ o.after, Region.binds md e = true → listed.getD e.on true = true
def closedB (md : Region.Mode) (ops : Array Oper) (listed : Array Bool) : Bool :=
  (List.range ops.size).all fun j => match ops[j]? with
    | some o => !listed.getD j true || o.after.all fun e => !Region.binds md e || listed.getD e.on true
    | none => true
theorem closedB_spec {listed : Array Bool} (h : closedB md ops listed = true) : Closed md ops listed := by
  intro j o hj hl e he hb
  simp only [closedB, List.all_eq_true, List.mem_range] at h
  have h1 := h j (Array.getElem?_eq_some_iff.1 hj).1
  simp only [hj, hl, Bool.not_true, Bool.false_or, Array.all_eq_true] at h1
  obtain ⟨k, hk, rfl⟩ := Array.getElem_of_mem he
  have h2 := h1 k hk
  rw [hb] at h2
  simpa using h2
theorem getD_true_of {listed : Array Bool} {k : Nat} (h : listed.getD k false = true) : listed.getD k true = true := by
  by_cases hs : k < listed.size
  · simp only [Array.getD_eq_getD_getElem?, Array.getElem?_eq_getElem hs, Option.getD_some] at h ⊢
    exact h
  · simp [Array.getD_eq_getD_getElem?, Array.getElem?_eq_none (Nat.le_of_not_lt hs)]
theorem getD_set_keep {listed : Array Bool} {j k : Nat} (h : listed.getD k true = true) : (listed.setIfInBounds j true).getD k true = true := by
  by_cases e : j = k
  · subst e
    by_cases hs : j < listed.size
    · simp [Array.getD_eq_getD_getElem?, hs]
    · simp [Array.getD_eq_getD_getElem?, Array.setIfInBounds, hs]
  · rw [getD_set_ne true e]; exact h
theorem Closed.step {listed : Array Bool} {j : Nat} (h : Closed md ops listed) (hj : j ∈ Region.ready md ops listed) : Closed md ops (listed.setIfInBounds j true) := by
  intro k o hk hl e he hb
  by_cases ejk : j = k
  · subst ejk
    obtain ⟨_, o', ho', hw⟩ := mem_ready.1 hj
    rw [hk] at ho'
    cases ho'
    exact getD_set_keep (getD_true_of (hw e he hb))
  · rw [getD_set_ne true ejk] at hl
    exact getD_set_keep (h k o hk hl e he hb)
theorem still_waits {listed : Array Bool} {i : Nat} (hc : Closed md ops listed) (hi : listed.getD i true = false) : ∀ (f j : Nat), waitsOn md ops f j i = true → listed.getD j true = false ∧ j ∉ Region.ready md ops listed
  | 0, _, h => by simp [waitsOn] at h
  | f + 1, j, h => by
    unfold waitsOn at h
    cases ho : ops[j]? with
    | none => simp [ho] at h
    | some o =>
      simp only [ho, Array.any_eq_true] at h
      obtain ⟨k, hk, h1⟩ := h
      rw [Bool.and_eq_true, Bool.or_eq_true] at h1
      have hun : listed.getD (o.after[k]).on true = false := by
        rcases h1.2 with h2 | h2
        · rw [beq_iff_eq.1 h2]; exact hi
        · exact (still_waits hc hi f _ h2).1
      refine ⟨?_, fun hr => ?_⟩
      · cases hg : listed.getD j true with
        | false => rfl
        | true => rw [hc j o ho hg _ (Array.getElem_mem hk) h1.1] at hun; cases hun
      · obtain ⟨_, o', ho', hw⟩ := mem_ready.1 hr
        rw [ho] at ho'
        cases ho'
        rw [getD_true_of (hw _ (Array.getElem_mem hk) h1.1)] at hun
        cases hun
/-- of two that may come up neither waits for the other -/
theorem ready_free {i j : Nat} {listed : Array Bool} (hi : i ∈ Region.ready md ops listed) (hj : j ∈ Region.ready md ops listed) : ∃ oj, ops[j]? = some oj ∧ ∀ e ∈ oj.after, Region.binds md e = true → e.on ≠ i := by
  obtain ⟨ui, _⟩ := mem_ready.1 hi
  obtain ⟨_, oj, ho, hw⟩ := mem_ready.1 hj
  refine ⟨oj, ho, fun e he hb h => ?_⟩
  have := getD_true_of (hw e he hb)
  rw [h, ui] at this
  cases this
/-- nobody who may still come ahead of i, and does not wait for it, touches what it does -/
def Clear (md : Region.Mode) (ops : Array Oper) (i : Nat) (oi : Oper) (listed : Array Bool) : Prop :=
  ∀ j oj, ops[j]? = some oj → j ≠ i → listed.getD j true = false → (∀ e ∈ oj.after, Region.binds md e = true → e.on ≠ i) → oi.apart ops oj = true
theorem Clear.step {i : Nat} {oi : Oper} {listed : Array Bool} (h : Clear md ops i oi listed) (j : Nat) : Clear md ops i oi (listed.setIfInBounds j true) := by
  intro k ok hk hne hun
  refine h k ok hk hne ?_
  cases hl : listed.getD k true with
  | false => rfl
  | true => rw [getD_set_keep hl] at hun; cases hun
theorem wpAnyK_first {i : Nat} {oi : Oper} {v : Value} (hi : ops[i]? = some oi) (hsel : ∀ (j : Nat) (o : Oper) cs b, ops[j]? = some o → o.op ≠ .select cs b)
    (hQ : ∀ c a w, Q (.panic c) (a.put oi.dst v) w → Q (.panic c) a w) (f : Nat) (hg : waitsOn md ops f g i = true) (fuel : Nat) :
    ∀ (listed : Array Bool) (a : Act) (w : World), Clear md ops i oi listed → Closed md ops listed → i ∈ Region.ready md ops listed → YieldsIf P ops S oi v a → S w →
      wpAnyK P md ops Q S g fuel (listed.setIfInBounds i true) (a.put oi.dst v) w → wpAnyK P md ops Q S g (fuel + 1) listed a w := by
  induction fuel with
  | zero =>
    intro listed a w _ _ hr hy hS H
    refine ⟨fun h => by rw [h] at hr; exact absurd hr (by simp), fun j hj => ?_⟩
    rcases Nat.decEq j i with hne | rfl
    · have := ready_mono hj hne
      rw [show Region.ready md ops (listed.setIfInBounds i true) = [] from H.1] at this
      exact absurd this (by simp)
    · exact hy.wpOp hi hS ⟨fun _ => hS, H⟩
  | succ n ih =>
    intro listed a w hc hcl hr hy hS H
    refine ⟨fun h => by rw [h] at hr; exact absurd hr (by simp), fun j hj => ?_⟩
    rcases Nat.decEq j i with hne | rfl
    · obtain ⟨oj, ho, hw⟩ := ready_free hr hj
      have ap := hc j oj ho hne (mem_ready.1 hj).1 hw
      obtain ⟨g1, g2⟩ := still_waits hcl (mem_ready.1 hr).1 f g hg
      have gj : j ≠ g := fun e => g2 (e ▸ hj)
      have gi : i ≠ g := fun e => g2 (e ▸ hr)
      refine wpOp_mono ?_ (wpOp_putIf ho ap (fun cs b => hsel i oi cs b hi) (fun cs b => hsel j oj cs b ho) hQ hy (H.2 j (ready_mono hj hne)))
      rintro a' w' ⟨y', s', k'⟩
      have sw : S w' := s' (by rw [getD_set_ne true gj, getD_set_ne true gi]; exact g1)
      refine ⟨fun _ => sw, ih _ a' w' (hc.step j) (hcl.step hj) (ready_mono hr (fun e => hne e.symm)) y' sw ?_⟩
      rwa [Array.setIfInBounds_comm _ _ hne]
    · exact hy.wpOp hi hS ⟨fun _ => hS, H⟩
theorem wpAnyK_take {i : Nat} {oi : Oper} {v : Value} {fuel : Nat} {listed : Array Bool} {a : Act} {w : World} (hi : ops[i]? = some oi)
    (hs : Region.noSelect ops = true) (hf : Region.free md ops listed i = true) (hr : (Region.ready md ops listed).contains i = true) (hc : closedB md ops listed = true) (hg : waitsOn md ops ops.size g i = true)
    (hQ : ∀ c a w, Q (.panic c) (a.put oi.dst v) w → Q (.panic c) a w) (hy : YieldsIf P ops S oi v a) (hS : S w)
    (h : wpAnyK P md ops Q S g fuel (listed.setIfInBounds i true) (a.put oi.dst v) w) : wpAnyK P md ops Q S g (fuel + 1) listed a w :=
  wpAnyK_first hi (Region.noSelect_spec hs) hQ _ hg fuel listed a w (Region.free_spec hi hf) (closedB_spec hc) (by simpa using hr) hy hS h
def AllReadyK (P : Program) (md : Region.Mode) (ops : Array Oper) (Q : Exit → Act → World → Prop) (S : World → Prop) (g : Nat) (fuel : Nat) (listed : Array Bool) (a : Act) (w : World) (rs : List Nat) : Prop :=
  ∀ i ∈ rs, wpOp P ops Q i (fun a' w' => ((listed.setIfInBounds i true).getD g true = false → S w') ∧ wpAnyK P md ops Q S g fuel (listed.setIfInBounds i true) a' w') a w
theorem AllReadyK.nil {fuel : Nat} {listed : Array Bool} {a : Act} {w : World} : AllReadyK P md ops Q S g fuel listed a w [] := fun _ h => by cases h
theorem AllReadyK.cons {fuel : Nat} {listed : Array Bool} {a : Act} {w : World} {i : Nat} {o : Oper} {rs : List Nat} (ho : ops[i]? = some o)
    (h : ∀ K' : Act → World → Prop, Shut (∀ a w, ((listed.setIfInBounds i true).getD g true = false → S w) → wpAnyK P md ops Q S g fuel (listed.setIfInBounds i true) a w → K' a w) → if Region.wanted o (yielded ops a.tmps) = true then Oper.wp P o a w K' Q else K' (a.put o.dst undef) w)
    (hs : AllReadyK P md ops Q S g fuel listed a w rs) : AllReadyK P md ops Q S g fuel listed a w (i :: rs) := fun j hj => by
  rcases List.mem_cons.1 hj with rfl | hj
  · exact wpOp_step ho (fun K' hK => h K' (fun a w hS hW => hK a w ⟨hS, hW⟩))
  · exact hs j hj
theorem wpAnyK_ready {rs : List Nat} {fuel : Nat} {listed : Array Bool} {a : Act} {w : World} (hr : Region.ready md ops listed = rs) (hne : rs ≠ [])
    (h : AllReadyK P md ops Q S g fuel listed a w rs) : wpAnyK P md ops Q S g (fuel + 1) listed a w :=
  ⟨fun h0 => absurd (hr ▸ h0) hne, hr ▸ h⟩
theorem wpAnyK_done {listed : Array Bool} {a : Act} {w : World} (hr : Region.ready md ops listed = []) (h : Q .normal a w) :
    ∀ fuel, wpAnyK P md ops Q S g fuel listed a w
  | 0 => ⟨hr, h⟩
  | _ + 1 => ⟨fun _ => h, by rw [hr]; simp⟩
theorem wp_region_K {id : Nat} {a : Act} {w : World} (g : Nat) (hm : P.follows .mixedOrders = true)
    (h : wpAnyK P .any ops Q S g ops.size (Array.replicate ops.size false) a w.drew) : (Code.region id ops true).wp P Q a w :=
  wp_region_any hm (wpAny_of_K _ _ _ _ h)
end
end Go.Proofs.Ytdefdbejaabpdaa
