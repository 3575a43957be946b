/-
  The law ClientKept: the walk.
  A slice of elements that are laid in a row, as an argument: opened, with what is known of each.
  An end, lists of entries, of notes and of numbers, and one entry, as arguments: opened; what their weights say of their lengths.
-/
import Derived.Test.YtdefdbejaabpdaaQCC
import Derived.Test.YtdefdbejaabpdaaQCA
import Derived.Test.YtdefdbejaabpdaaRows
import Derived.ProofKit
import Derived.OpenShut
import Derived.SizedLaws
import Derived.Deep.Slices
import Derived.Carry
namespace Go.Proofs.Ytdefdbejaabpdaa
open Go.RowKit

theorem OneR.nextz {α : Type} [Lay α] {W V : World} {b : Nat} {x : α} (h : OneR W b x) (hb : Below W.heap.size W V) : OneR V b x := h.keptz hb h.ltz
set_option maxRecDepth 20000 in
set_option maxHeartbeats 4000000 in
theorem clientKept_walk (v : Value) (l : List En) (x : En) (p : List UInt8) (w : World) (hv : SeqV w v l) (hs : ShortC l) (hx : x.p.length ≤ 140737488355328 ∧ x.d.length ≤ 140737488355328) :
    Calls Try.prog 6 #[v, enV x, .string ⟨p.toArray⟩] w fun e w' => e = .returned (.bool true) ∧ Below w.heap.size w w' := by
  have CC := fun W (hW : Below w.heap.size w W) => caching_any 3 v l W (hv.next hW) hs
  have hal : (cacheE (l.take 60)).length ≤ 60 := Nat.le_trans (cache_len _) (by simp; omega)
  have hsh := short_cache (short_take hs 60)
  have has := cache_asc (l.take 60)
  obtain ⟨es, hes⟩ : ∃ es, cacheE (l.take 60) = es := ⟨_, rfl⟩
  rw [hes] at hal hsh has CC
  have CK := hide (fun W v' (h : SeqV W v' es) => ckeep_any 3 0 v' es x W h hsh (by omega) has hx)
  have CL1 := hide (fun W v' (h : SeqV W v' es) => clook_any 3 0 v' es p W h hsh (by omega) has)
  have hkl := keep_len es has x
  have CL2 := hide (fun W v' (h : SeqV W v' (keepE es x)) => clook_any 3 0 v' (keepE es x) x.p W h (short_keep hsh hx) (by omega) (keep_asc has x))
  have CL3 := hide (fun W v' (h : SeqV W v' (keepE es x)) => clook_any 3 0 v' (keepE es x) p W h (short_keep hsh hx) (by omega) (keep_asc has x))
  rw [keep_same has x] at CL2
  simp only [entE, Option.isSome_some] at CL2
  have HN := hide (fun (h : p ≠ x.p) => keep_other has x h)
  have HD := hide (keep_asc has x)
  obtain ⟨D, hD⟩ : ∃ D, keepE es x = D := ⟨_, rfl⟩
  rw [hD] at CK CL2 CL3 HN HD hkl
  obtain ⟨ew, hew⟩ : ∃ e, entE (lookE es p) = e := ⟨_, rfl⟩
  obtain ⟨bw, hbw⟩ : ∃ b, (lookE es p).isSome = b := ⟨_, rfl⟩
  obtain ⟨en, hen⟩ : ∃ e, entE (lookE D p) = e := ⟨_, rfl⟩
  obtain ⟨bn, hbn⟩ : ∃ b, (lookE D p).isSome = b := ⟨_, rfl⟩
  obtain ⟨nx, hnx⟩ : ∃ e, normE x = e := ⟨_, rfl⟩
  rw [hew, hbw] at CL1
  rw [hen, hbn] at CL3
  rw [hnx] at CL2
  have HP : Hid (p ≠ x.p → en = ew ∧ bn = bw) := hide fun h => by rw [← hen, ← hbn, ← hew, ← hbw, unhide HN h]; exact ⟨rfl, rfl⟩
  have HX := hide hnx
  clear hew hbw hen hbn HN hD hes has hsh hnx
  obtain ⟨va, vc, rfl⟩ := seq_slice hv
  unfold clV at CC CK CL1 CL2 CL3
  unfold enV at CK CL1 CL2 CL3 ⊢
  clear hv hs hx
  obtain ⟨k, hk⟩ : ∃ k, k = w.heap.size := ⟨_, rfl⟩
  have HX0 := hide (one_newC w x)
  have HB0 := hide (allocB w (.cells #[.string ⟨x.p.toArray⟩, .string ⟨x.d.toArray⟩, .bool x.t] 36))
  go_enter Try.func6, Try.ntmps6
  go_wp2_with fail
  rw [← hk] at HX0 ⊢
  generalize w.alloc (.cells #[.string ⟨x.p.toArray⟩, .string ⟨x.d.toArray⟩, .bool x.t] 36) = W0 at *
  have HK := hide hk
  clear hk
  refine (CC _ (unhide HB0)).mono ?_
  rintro e w1 ⟨v1, rfl, ho1, hb1⟩
  obtain ⟨a1, c1, rfl, _⟩ := ho1.slice
  have hal1 := allocB w1 (.cells #[.int .i64 3, .int .i64 0, .slice a1 es.length c1] 24)
  have HB1 := hide (nnext (nnext (unhide HB0) hb1) hal1)
  have HX1 := hide (((unhide HX0).nextz hb1).nextz hal1)
  have HS1 := hide (ho1.next hal1)
  have HC1 := hide (CBox.new w1 3 0 (.slice a1 es.length c1))
  have hk0 : k < W0.heap.size := (unhide HX0).ltz
  have hz1 := hb1.size
  clear CC ho1 hb1 hal1 HX0 HB0
  obtain ⟨q7, hq7⟩ : ∃ q, q = w1.heap.size := ⟨_, rfl⟩
  rw [← hq7] at HC1 hz1
  have hk7 : k < q7 := by omega
  have g0 := (unhide HC1).c0
  have g1 := (unhide HC1).c1
  have g2 := (unhide HC1).c2
  go_upto_region 2 with fail
  rw [← hq7]
  clear hq7
  generalize w1.alloc (.cells #[.int .i64 3, .int .i64 0, .slice a1 es.length c1] 24) = W1 at *
  go_wp2_with fail
  refine (unhide CL1 _ _ (unhide HS1).seq).mono ?_
  rintro e w2 ⟨rfl, hb2⟩
  have hal2 := allocB w2 (.cells #[.string ⟨ew.p.toArray⟩, .string ⟨ew.d.toArray⟩, .bool ew.t] 36)
  have HB2 := hide (nnext (nnext (unhide HB1) hb2) hal2)
  have HX2 := hide (((unhide HX1).nextz hb2).nextz hal2)
  have HS2 := hide (((unhide HS1).next hb2).next hal2)
  have HC2 := hide (((unhide HC1).next hb2).next hal2)
  have HW2 := hide (one_newC w2 ew)
  have hz2 := hb2.size
  have hq7l := (unhide HC1).lt
  clear hb2 hal2 HB1 HX1 HS1 HC1 g0 g1 g2
  obtain ⟨q8, hq8⟩ : ∃ q, q = w2.heap.size := ⟨_, rfl⟩
  rw [← hq8] at HW2 hz2
  have hk8 : k < q8 := by omega
  have g0 := (unhide HC2).c0
  have g1 := (unhide HC2).c1
  have g2 := (unhide HC2).c2
  have y0 := (unhide HX2).e0
  have y1 := (unhide HX2).e1
  have y2 := (unhide HX2).e2
  go_upto_region 3 with fail
  rw [← hq8]
  clear hq8
  generalize w2.alloc (.cells #[.string ⟨ew.p.toArray⟩, .string ⟨ew.d.toArray⟩, .bool ew.t] 36) = W2 at *
  go_wp2_with fail
  refine (unhide CK _ _ (unhide HS2).seq).mono ?_
  rintro e w3 ⟨v3, rfl, ho3, hb3⟩
  obtain ⟨a3, c3, rfl, _⟩ := ho3.slice
  have hal3 := allocB w3 (.cells #[.int .i64 3, .int .i64 0, .slice a3 D.length c3] 24)
  have HB3 := hide (nnext (nnext (unhide HB2) hb3) hal3)
  have HX3 := hide (((unhide HX2).nextz hb3).nextz hal3)
  have HS3 := hide (((unhide HS2).next hb3).next hal3)
  have HC3 := hide (((unhide HC2).next hb3).next hal3)
  have HW3 := hide (((unhide HW2).nextz hb3).nextz hal3)
  have HT3 := hide (ho3.next hal3)
  have HD3 := hide (CBox.new w3 3 0 (.slice a3 D.length c3))
  have hz3 : W2.heap.size ≤ w3.heap.size := hb3.size
  have hkl2 := (unhide HX2).ltz
  clear ho3 hb3 hal3 HB2 HX2 HS2 HC2 HW2 g0 g1 g2 y0 y1 y2
  obtain ⟨q10, hq10⟩ : ∃ q, q = w3.heap.size := ⟨_, rfl⟩
  rw [← hq10] at HD3 hz3
  have hka : k < q10 := by omega
  have hkb : k < W2.heap.size := hkl2
  have y2 := (unhide HX3).e2
  have y1 := (unhide HX3).e1
  have yf := (unhide HX3).frz 1
  go_upto_region 4 with fail
  rw [← hq10]
  clear hq10
  generalize w3.alloc (.cells #[.int .i64 3, .int .i64 0, .slice a3 D.length c3] 24) = W3 at *
  cases ht : x.t with
  | true =>
    have HX4 : Hid (OneR W3 k nx) := hide (by rw [← unhide HX, normE_yes ht]; exact unhide HX3)
    have HXP : Hid (nx.p = x.p) := hide (by rw [← unhide HX]; exact normE_p x)
    rw [ht] at y2
    have HB4 := HB3
    have HS4 := HS3
    have HC4 := HC3
    have HW4 := HW3
    have HT4 := HT3
    have HD4 := HD3
    clear HX3 HB3 HS3 HC3 HW3 HT3 HD3
    have g0 := (unhide HD4).c0
    have g1 := (unhide HD4).c1
    have g2 := (unhide HD4).c2
    have y0 := (unhide HX4).e0
    rw [unhide HXP] at y0
    go_upto_region 6 with fail
    generalize W3 = W4 at *
    go_wp2_with fail
    refine (unhide CL2 _ _ (unhide HT4).seq).mono ?_
    rintro e w5 ⟨rfl, hb5⟩
    have hal5 := allocB w5 (.cells #[.string ⟨nx.p.toArray⟩, .string ⟨nx.d.toArray⟩, .bool nx.t] 36)
    have HB5 := hide (nnext (nnext (unhide HB4) hb5) hal5)
    have HX5 := hide (((unhide HX4).nextz hb5).nextz hal5)
    have HS5 := hide (((unhide HS4).next hb5).next hal5)
    have HC5 := hide (((unhide HC4).next hb5).next hal5)
    have HW5 := hide (((unhide HW4).nextz hb5).nextz hal5)
    have HT5 := hide (((unhide HT4).next hb5).next hal5)
    have HD5 := hide (((unhide HD4).next hb5).next hal5)
    have HG5 := hide (one_newC w5 nx)
    clear hb5 hal5 HB4 HX4 HS4 HC4 HW4 HT4 HD4 g0 g1 g2 y0
    have g0 := (unhide HD5).c0
    have g1 := (unhide HD5).c1
    have g2 := (unhide HD5).c2
    go_upto_region 7 with fail
    generalize w5.heap.size = q11 at *
    generalize w5.alloc (.cells #[.string ⟨nx.p.toArray⟩, .string ⟨nx.d.toArray⟩, .bool nx.t] 36) = W5 at *
    go_wp2_with fail
    refine (unhide CL3 _ _ (unhide HT5).seq).mono ?_
    rintro e w6 ⟨rfl, hb6⟩
    have hal6 := allocB w6 (.cells #[.string ⟨en.p.toArray⟩, .string ⟨en.d.toArray⟩, .bool en.t] 36)
    have HB6 := hide (nnext (nnext (unhide HB5) hb6) hal6)
    have HX6 := hide (((unhide HX5).nextz hb6).nextz hal6)
    have HS6 := hide (((unhide HS5).next hb6).next hal6)
    have HC6 := hide (((unhide HC5).next hb6).next hal6)
    have HW6 := hide (((unhide HW5).nextz hb6).nextz hal6)
    have HT6 := hide (((unhide HT5).next hb6).next hal6)
    have HD6 := hide (((unhide HD5).next hb6).next hal6)
    have HG6 := hide (((unhide HG5).nextz hb6).nextz hal6)
    have HN6 := hide (one_newC w6 en)
    clear hb6 hal6 HB5 HX5 HS5 HC5 HW5 HT5 HD5 HG5 g0 g1 g2
    have g0 := (unhide HC6).c0
    have g1 := (unhide HC6).c1
    have g2 := (unhide HC6).c2
    go_upto_region 8 with fail
    generalize w6.heap.size = q13 at *
    generalize w6.alloc (.cells #[.string ⟨en.p.toArray⟩, .string ⟨en.d.toArray⟩, .bool en.t] 36) = W6 at *
    go_wp2_with fail
    refine (unhide CL1 _ _ (unhide HS6).seq).mono ?_
    rintro e w7 ⟨rfl, hb7⟩
    have hal7 := allocB w7 (.cells #[.string ⟨ew.p.toArray⟩, .string ⟨ew.d.toArray⟩, .bool ew.t] 36)
    have HB7 := hide (nnext (nnext (unhide HB6) hb7) hal7)
    have HX7 := hide (((unhide HX6).nextz hb7).nextz hal7)
    have HW7 := hide (((unhide HW6).nextz hb7).nextz hal7)
    have HT7 := hide (((unhide HT6).next hb7).next hal7)
    have HD7 := hide (((unhide HD6).next hb7).next hal7)
    have HG7 := hide (((unhide HG6).nextz hb7).nextz hal7)
    have HN7 := hide (((unhide HN6).nextz hb7).nextz hal7)
    have HO7 := hide (one_newC w7 ew)
    clear hb7 hal7 HB6 HX6 HS6 HC6 HW6 HT6 HD6 HG6 HN6 g0 g1 g2
    have u0 := (unhide HO7).e0
    have u1 := (unhide HO7).e1
    have u2 := (unhide HO7).e2
    have u3 := (unhide HW7).e0
    have u4 := (unhide HW7).e1
    have u5 := (unhide HW7).e2
    have g2 := (unhide HD7).c2
    go_upto_region 9 with fail
    generalize w7.heap.size = q15 at *
    generalize w7.alloc (.cells #[.string ⟨ew.p.toArray⟩, .string ⟨ew.d.toArray⟩, .bool ew.t] 36) = W7 at *
    go_wp2_with fail
    go_loopg [17] D.length (fun kx s17 wr => ∃ i : Nat, s17 = .int .i64 i ∧ 1 ≤ i ∧ D.length - i ≤ kx ∧ Hid (Below W7.heap.size W7 wr))
    case atStart => exact ⟨1, rfl, Nat.le_refl _, by omega, hide (Below.refl _ _)⟩
    case round =>
      obtain ⟨i, rfl, hi1, hg, hB⟩ := hrel
      have g3 := ((unhide HD7).next (unhide hB)).c2
      by_cases hlt : i < D.length
      · obtain ⟨y, hy⟩ : ∃ y, D[i]? = some y := ⟨_, List.getElem?_eq_getElem hlt⟩
        obtain ⟨z, hz⟩ : ∃ z, D[i - 1]? = some z := ⟨_, List.getElem?_eq_getElem (by omega)⟩
        have hO := (unhide HT7).next (unhide hB)
        have hbl : Op.bytesLess z.p y.p = true := by
          obtain ⟨h1, rfl⟩ := List.getElem?_eq_some_iff.1 hy
          obtain ⟨h2, rfl⟩ := List.getElem?_eq_some_iff.1 hz
          exact List.pairwise_iff_getElem.1 (unhide HD) (i - 1) i h2 h1 (by omega)
        rcases hO with ⟨_, h0⟩ | ⟨g, cap, he, _, hO⟩
        · rw [h0] at hlt; simp at hlt
        simp only [Value.slice.injEq] at he
        obtain ⟨rfl, _, rfl⟩ := he
        have d0 := hO.row.en0 hy
        have d1 := hO.row.en0 hz
        simp only [Nat.zero_add] at d0 d1
        obtain ⟨j, hj⟩ : ∃ j, i = j + 1 := ⟨i - 1, by omega⟩
        subst hj
        simp only [Nat.add_sub_cancel] at d1
        have hji : ((j + 1 : Nat) : Int) < (D.length : Int) := by omega
        clear hO hy hz
        have hj1 : ((j + 1 : Nat) : Int) - 1 = (j : Int) := by omega
        go_wp2_with fail
        go_region
        go_wp2_with fail
        go_roundg (D.length - (j + 1 + 1))
        case measure => omega
        case rel => exact ⟨j + 1 + 1, rfl, by omega, Nat.le_refl _, hide (nnext (unhide hB) (Below.refl _ _).drew)⟩
      · have b0 := ((unhide HG7).nextz (unhide hB)).e0
        have b1 := ((unhide HG7).nextz (unhide hB)).e1
        have b2 := ((unhide HG7).nextz (unhide hB)).e2
        have b3 := ((unhide HX7).nextz (unhide hB)).e0
        have b4 := ((unhide HX7).nextz (unhide hB)).e1
        have b5 := ((unhide HX7).nextz (unhide hB)).e2
        have b6 := ((unhide HN7).nextz (unhide hB)).e0
        have b7 := ((unhide HN7).nextz (unhide hB)).e1
        have b8 := ((unhide HN7).nextz (unhide hB)).e2
        have b9 := ((unhide HW7).nextz (unhide hB)).e0
        have b10 := ((unhide HW7).nextz (unhide hB)).e1
        have b11 := ((unhide HW7).nextz (unhide hB)).e2
        have HB8 := hide (nnext (unhide HB7) (unhide hB))
        have hni : ¬ (i : Int) < (D.length : Int) := by omega
        by_cases hp : p = x.p
        · have hpe : (p == nx.p) = true := by rw [unhide HXP]; simpa using hp
          clear hp
          go_wp2_with fail
          refine (cstarts_any _).mono ?_
          rintro e w9 ⟨rfl, hb9⟩
          have HB9 := hide (nnext (unhide HB8) hb9)
          clear hb9
          go_wp2_with fail
          go_ret
          exact ⟨rfl, unhide HB9⟩
        · obtain ⟨e1, e2⟩ := unhide HP hp
          have hpe : (p == nx.p) = false := by rw [unhide HXP]; simpa using hp
          clear hp
          subst e1 e2
          go_wp2_with fail
          refine (cstarts_any _).mono ?_
          rintro e w9 ⟨rfl, hb9⟩
          have HB9 := hide (nnext (unhide HB8) hb9)
          clear hb9
          go_wp2_with fail
          go_ret
          exact ⟨rfl, unhide HB9⟩
  | false =>
    have HX4 : Hid (OneR (W3.setCell ⟨k, 1, none⟩ (.string ⟨([] : List UInt8).toArray⟩)) k nx) := hide (by rw [← unhide HX, normE_no ht]; exact one_set1 (unhide HX3) [])
    have HXP : Hid (nx.p = x.p) := hide (by rw [← unhide HX]; exact normE_p x)
    rw [ht] at y2
    have HB4 := hide ((unhide HB3).setCell (p := ⟨k, 1, none⟩) (by simp only; rw [unhide HK]; exact Nat.le_refl _) (.string ⟨([] : List UInt8).toArray⟩))
    have HS4 := hide ((unhide HS3).otherz (k := k) (j := 1) hk0 (.string ⟨([] : List UInt8).toArray⟩))
    have HC4 := hide ((unhide HC3).other (a := ⟨k, 1, none⟩) (by simp only; omega) (.string ⟨([] : List UInt8).toArray⟩))
    have HW4 := hide ((unhide HW3).otherz (a := ⟨k, 1, none⟩) (by simp only; omega) (.string ⟨([] : List UInt8).toArray⟩))
    have HT4 := hide ((unhide HT3).otherz (k := k) (j := 1) hkb (.string ⟨([] : List UInt8).toArray⟩))
    have HD4 := hide ((unhide HD3).other (a := ⟨k, 1, none⟩) (by simp only; omega) (.string ⟨([] : List UInt8).toArray⟩))
    clear HX3 HB3 HS3 HC3 HW3 HT3 HD3
    have g0 := (unhide HD4).c0
    have g1 := (unhide HD4).c1
    have g2 := (unhide HD4).c2
    have y0 := (unhide HX4).e0
    rw [unhide HXP] at y0
    go_upto_region 6 with fail
    generalize W3.setCell ⟨k, 1, none⟩ (.string ⟨([] : List UInt8).toArray⟩) = W4 at *
    go_wp2_with fail
    refine (unhide CL2 _ _ (unhide HT4).seq).mono ?_
    rintro e w5 ⟨rfl, hb5⟩
    have hal5 := allocB w5 (.cells #[.string ⟨nx.p.toArray⟩, .string ⟨nx.d.toArray⟩, .bool nx.t] 36)
    have HB5 := hide (nnext (nnext (unhide HB4) hb5) hal5)
    have HX5 := hide (((unhide HX4).nextz hb5).nextz hal5)
    have HS5 := hide (((unhide HS4).next hb5).next hal5)
    have HC5 := hide (((unhide HC4).next hb5).next hal5)
    have HW5 := hide (((unhide HW4).nextz hb5).nextz hal5)
    have HT5 := hide (((unhide HT4).next hb5).next hal5)
    have HD5 := hide (((unhide HD4).next hb5).next hal5)
    have HG5 := hide (one_newC w5 nx)
    clear hb5 hal5 HB4 HX4 HS4 HC4 HW4 HT4 HD4 g0 g1 g2 y0
    have g0 := (unhide HD5).c0
    have g1 := (unhide HD5).c1
    have g2 := (unhide HD5).c2
    go_upto_region 7 with fail
    generalize w5.heap.size = q11 at *
    generalize w5.alloc (.cells #[.string ⟨nx.p.toArray⟩, .string ⟨nx.d.toArray⟩, .bool nx.t] 36) = W5 at *
    go_wp2_with fail
    refine (unhide CL3 _ _ (unhide HT5).seq).mono ?_
    rintro e w6 ⟨rfl, hb6⟩
    have hal6 := allocB w6 (.cells #[.string ⟨en.p.toArray⟩, .string ⟨en.d.toArray⟩, .bool en.t] 36)
    have HB6 := hide (nnext (nnext (unhide HB5) hb6) hal6)
    have HX6 := hide (((unhide HX5).nextz hb6).nextz hal6)
    have HS6 := hide (((unhide HS5).next hb6).next hal6)
    have HC6 := hide (((unhide HC5).next hb6).next hal6)
    have HW6 := hide (((unhide HW5).nextz hb6).nextz hal6)
    have HT6 := hide (((unhide HT5).next hb6).next hal6)
    have HD6 := hide (((unhide HD5).next hb6).next hal6)
    have HG6 := hide (((unhide HG5).nextz hb6).nextz hal6)
    have HN6 := hide (one_newC w6 en)
    clear hb6 hal6 HB5 HX5 HS5 HC5 HW5 HT5 HD5 HG5 g0 g1 g2
    have g0 := (unhide HC6).c0
    have g1 := (unhide HC6).c1
    have g2 := (unhide HC6).c2
    go_upto_region 8 with fail
    generalize w6.heap.size = q13 at *
    generalize w6.alloc (.cells #[.string ⟨en.p.toArray⟩, .string ⟨en.d.toArray⟩, .bool en.t] 36) = W6 at *
    go_wp2_with fail
    refine (unhide CL1 _ _ (unhide HS6).seq).mono ?_
    rintro e w7 ⟨rfl, hb7⟩
    have hal7 := allocB w7 (.cells #[.string ⟨ew.p.toArray⟩, .string ⟨ew.d.toArray⟩, .bool ew.t] 36)
    have HB7 := hide (nnext (nnext (unhide HB6) hb7) hal7)
    have HX7 := hide (((unhide HX6).nextz hb7).nextz hal7)
    have HW7 := hide (((unhide HW6).nextz hb7).nextz hal7)
    have HT7 := hide (((unhide HT6).next hb7).next hal7)
    have HD7 := hide (((unhide HD6).next hb7).next hal7)
    have HG7 := hide (((unhide HG6).nextz hb7).nextz hal7)
    have HN7 := hide (((unhide HN6).nextz hb7).nextz hal7)
    have HO7 := hide (one_newC w7 ew)
    clear hb7 hal7 HB6 HX6 HS6 HC6 HW6 HT6 HD6 HG6 HN6 g0 g1 g2
    have u0 := (unhide HO7).e0
    have u1 := (unhide HO7).e1
    have u2 := (unhide HO7).e2
    have u3 := (unhide HW7).e0
    have u4 := (unhide HW7).e1
    have u5 := (unhide HW7).e2
    have g2 := (unhide HD7).c2
    go_upto_region 9 with fail
    generalize w7.heap.size = q15 at *
    generalize w7.alloc (.cells #[.string ⟨ew.p.toArray⟩, .string ⟨ew.d.toArray⟩, .bool ew.t] 36) = W7 at *
    go_wp2_with fail
    go_loopg [17] D.length (fun kx s17 wr => ∃ i : Nat, s17 = .int .i64 i ∧ 1 ≤ i ∧ D.length - i ≤ kx ∧ Hid (Below W7.heap.size W7 wr))
    case atStart => exact ⟨1, rfl, Nat.le_refl _, by omega, hide (Below.refl _ _)⟩
    case round =>
      obtain ⟨i, rfl, hi1, hg, hB⟩ := hrel
      have g3 := ((unhide HD7).next (unhide hB)).c2
      by_cases hlt : i < D.length
      · obtain ⟨y, hy⟩ : ∃ y, D[i]? = some y := ⟨_, List.getElem?_eq_getElem hlt⟩
        obtain ⟨z, hz⟩ : ∃ z, D[i - 1]? = some z := ⟨_, List.getElem?_eq_getElem (by omega)⟩
        have hO := (unhide HT7).next (unhide hB)
        have hbl : Op.bytesLess z.p y.p = true := by
          obtain ⟨h1, rfl⟩ := List.getElem?_eq_some_iff.1 hy
          obtain ⟨h2, rfl⟩ := List.getElem?_eq_some_iff.1 hz
          exact List.pairwise_iff_getElem.1 (unhide HD) (i - 1) i h2 h1 (by omega)
        rcases hO with ⟨_, h0⟩ | ⟨g, cap, he, _, hO⟩
        · rw [h0] at hlt; simp at hlt
        simp only [Value.slice.injEq] at he
        obtain ⟨rfl, _, rfl⟩ := he
        have d0 := hO.row.en0 hy
        have d1 := hO.row.en0 hz
        simp only [Nat.zero_add] at d0 d1
        obtain ⟨j, hj⟩ : ∃ j, i = j + 1 := ⟨i - 1, by omega⟩
        subst hj
        simp only [Nat.add_sub_cancel] at d1
        have hji : ((j + 1 : Nat) : Int) < (D.length : Int) := by omega
        clear hO hy hz
        have hj1 : ((j + 1 : Nat) : Int) - 1 = (j : Int) := by omega
        go_wp2_with fail
        go_region
        go_wp2_with fail
        go_roundg (D.length - (j + 1 + 1))
        case measure => omega
        case rel => exact ⟨j + 1 + 1, rfl, by omega, Nat.le_refl _, hide (nnext (unhide hB) (Below.refl _ _).drew)⟩
      · have b0 := ((unhide HG7).nextz (unhide hB)).e0
        have b1 := ((unhide HG7).nextz (unhide hB)).e1
        have b2 := ((unhide HG7).nextz (unhide hB)).e2
        have b3 := ((unhide HX7).nextz (unhide hB)).e0
        have b4 := ((unhide HX7).nextz (unhide hB)).e1
        have b5 := ((unhide HX7).nextz (unhide hB)).e2
        have b6 := ((unhide HN7).nextz (unhide hB)).e0
        have b7 := ((unhide HN7).nextz (unhide hB)).e1
        have b8 := ((unhide HN7).nextz (unhide hB)).e2
        have b9 := ((unhide HW7).nextz (unhide hB)).e0
        have b10 := ((unhide HW7).nextz (unhide hB)).e1
        have b11 := ((unhide HW7).nextz (unhide hB)).e2
        have HB8 := hide (nnext (unhide HB7) (unhide hB))
        have hni : ¬ (i : Int) < (D.length : Int) := by omega
        by_cases hp : p = x.p
        · have hpe : (p == nx.p) = true := by rw [unhide HXP]; simpa using hp
          clear hp
          go_wp2_with fail
          refine (cstarts_any _).mono ?_
          rintro e w9 ⟨rfl, hb9⟩
          have HB9 := hide (nnext (unhide HB8) hb9)
          clear hb9
          go_wp2_with fail
          go_ret
          exact ⟨rfl, unhide HB9⟩
        · obtain ⟨e1, e2⟩ := unhide HP hp
          have hpe : (p == nx.p) = false := by rw [unhide HXP]; simpa using hp
          clear hp
          subst e1 e2
          go_wp2_with fail
          refine (cstarts_any _).mono ?_
          rintro e w9 ⟨rfl, hb9⟩
          have HB9 := hide (nnext (unhide HB8) hb9)
          clear hb9
          go_wp2_with fail
          go_ret
          exact ⟨rfl, unhide HB9⟩
end Go.Proofs.Ytdefdbejaabpdaa

namespace Go.Proofs.Ytdefdbejaabpdaa
open Go.ChangeShapes Go.WideShapes Go.ChangeAt Go.RowKit Go.ChangeMaps

theorem zlaidOut : laidOutB Try.prog = true := by kernel_rfl
theorem zlist_of (s : ByteArray) : ∃ l : List UInt8, s = ⟨l.toArray⟩ := ⟨s.data.toList, rfl⟩
section
variable {H : Type} {enc : TypeId × Value → H} {W : World} {base : Nat} {spare : Nat → Bool} {held : Bool}
theorem zweightsAll_mem {e : TypeId} : ∀ (l : List (DataW H)) (d : DataW H) (x : Nat), d ∈ l → x ∈ DataW.weights Try.prog e d → x ∈ DataW.weightsAll Try.prog e l
  | d' :: r, d, x, h, hx => by
    rw [DataW.weightsAll]
    rcases List.mem_cons.1 h with rfl | h
    · exact List.mem_append.2 (.inl hx)
    · exact List.mem_append.2 (.inr (zweightsAll_mem r d x h hx))
set_option maxRecDepth 10000 in
/-- a slice of elements that are laid in a row, and what is known of each -/
theorem open_seqP {α : Type} [Lay α] (al : α) {T E : TypeId} (hU : Try.prog.underlying T = some (.slice E)) (hk : Try.prog.cellsOf E = Lay.k α) (hk0 : 0 < Lay.k α) {bytes : Nat} (hby : Try.prog.bytesOf E = bytes) (P : α → Prop) (Q : Nat → α → Prop)
    (ho : ∀ {n : Nat} {cs : List Value} {x : DataW H × List MemPlace}, cs.length = Lay.k α → DataW.trod enc Try.prog W base spare held n E cs = some x → ∃ f : α, cs = Lay.cs f ∧ P f ∧ ∀ M, (∀ y ∈ DataW.weights Try.prog E x.1, y ≤ M) → Q M f)
    {fuel : Nat} {v : Value} {y : DataW H × List MemPlace} (h : DataW.trod enc Try.prog W base spare held fuel T [v] = some y) :
    ∃ xs : List α, SeqV W v xs ∧ (∀ x ∈ xs, P x) ∧ ∀ M, (∀ x ∈ DataW.weights Try.prog T y.1, x ≤ M) → xs.length * bytes ≤ M ∧ ∀ x ∈ xs, Q M x := by
  rcases Go.Deep.open_slice hU h with ⟨h1, hx⟩ | ⟨a, len, cap, m, k, D, Pl, h1, hb, hl, hm, hmm, hx, hel⟩
  · simp only [List.cons.injEq, and_true] at h1
    rw [h1]
    exact ⟨[], SeqV.nil W, by simp, fun M _ => ⟨by simp, by simp⟩⟩
  · simp only [List.cons.injEq, and_true] at h1
    rw [h1]
    subst hx
    have hlm : len ≤ m := by rw [hmm]; split <;> omega
    have each : ∀ i, i < len → ∃ f : α, (∀ c, c < Lay.k α → W.cell? (a.add (i * Lay.k α + c)) = (Lay.cs f)[c]?) ∧ P f ∧ ∀ M, (∀ y ∈ DataW.weights Try.prog E (D i), y ≤ M) → Q M f := by
      intro i hi
      obtain ⟨cs', g1, g2⟩ := hel i (by omega)
      rw [hk] at g1
      obtain ⟨_, hlen, hcell⟩ := World.cells?_some g1
      obtain ⟨f, rfl, hp, hq⟩ := ho hlen g2
      refine ⟨f, fun c hc => ?_, hp, hq⟩
      have := hcell c hc
      rwa [Go.Deep.add_add] at this
    have : Inhabited α := ⟨al⟩
    obtain ⟨F, hF⟩ := Go.Deep.choose_lt each
    refine ⟨(List.range len).map F, ?_, ?_, ?_⟩
    · by_cases h0 : len = 0
      · subst h0
        exact .inl ⟨some a, cap, rfl, rfl, hm⟩
      · have c0 := (hF 0 (by omega)).1 0 hk0
        obtain ⟨y, hy⟩ : ∃ y, (Lay.cs (F 0))[0]? = some y := ⟨_, List.getElem?_eq_getElem (by rw [Lay.len]; exact hk0)⟩
        rw [hy] at c0
        obtain ⟨b, off, sp⟩ := a
        have hsp : sp = none := by
          cases sp with
          | none => rfl
          | some s => simp [World.cell?, Addr.add] at c0; split at c0 <;> simp at c0
        subst hsp
        have hblt : b < W.heap.size := World.block_lt_of_cell? W _ (show W.cell? ((⟨b, off, none⟩ : Addr).add (0 * Lay.k α + 0)) = some _ from c0) |> fun h => by simpa [Addr.add] using h
        refine .inr ⟨b, off, cap, by simp, by simpa using hl, hm, hblt, by simp; omega, fun j u hj => ?_⟩
        have hjl : j < len * Lay.k α := by
          have := (List.getElem?_eq_some_iff.1 hj).1
          rw [cellsL_length, List.length_map, List.length_range] at this
          exact this
        have hi : j / Lay.k α < len := Nat.div_lt_of_lt_mul (by rw [Nat.mul_comm]; exact hjl)
        have hm' : j % Lay.k α < Lay.k α := Nat.mod_lt _ hk0
        have hdm : j / Lay.k α * Lay.k α + j % Lay.k α = j := by rw [Nat.mul_comm]; exact Nat.div_add_mod j _
        have hg := cellsL_get ((List.range len).map F) (j / Lay.k α) (F (j / Lay.k α)) (by rw [List.getElem?_map, List.getElem?_range hi]; rfl) (j % Lay.k α) hm'
        rw [hdm, hj] at hg
        have := (hF (j / Lay.k α) hi).1 (j % Lay.k α) hm'
        rw [hdm, Addr.add_lit, ← hg] at this
        exact this
    · intro x hx
      obtain ⟨i, hi, rfl⟩ := List.mem_map.1 hx
      exact (hF i (by simpa using hi)).2.1
    · intro M hM
      have hw' : DataW.weights Try.prog T (.slice ((List.range len).map D) ((List.range (m - len)).map fun j => D (len + j)) : DataW H) =
          (len + (m - len)) * bytes :: (DataW.weightsAll Try.prog E ((List.range len).map D) ++ DataW.weightsAll Try.prog E ((List.range (m - len)).map fun j => D (len + j))) := by
        simp [DataW.weights, hU, hby]
      rw [hw'] at hM
      refine ⟨?_, fun f hf => ?_⟩
      · have := hM _ (List.mem_cons_self ..)
        simp only [List.length_map, List.length_range]
        exact Nat.le_trans (Nat.mul_le_mul_right _ (by omega)) this
      · obtain ⟨i, hi, rfl⟩ := List.mem_map.1 hf
        have hi' : i < len := by simpa using hi
        exact (hF i hi').2.2 M fun x hx => hM x (List.mem_cons_of_mem _ (List.mem_append.2 (.inl (zweightsAll_mem _ (D i) x (List.mem_map.2 ⟨i, hi, rfl⟩) hx))))
theorem zsized {ts : List TypeId} {ds : List (DataW H)} (h : (DataW.weightsEach Try.prog ts ds).all (· ≤ reachBytes) = true) {j : Nat} {T : TypeId} {d : DataW H} (ht : ts[j]? = some T) (hd : ds[j]? = some d) : ∀ x ∈ DataW.weights Try.prog T d, x ≤ 140737488351232 := by
  intro x hx
  have e : reachBytes = 140737488351232 := by decide
  have h1 := List.all_eq_true.1 h _ (DataW.weights_mem_each ht hd x hx)
  rw [e] at h1
  simpa using h1
end
end Go.Proofs.Ytdefdbejaabpdaa

namespace Go.Proofs.Ytdefdbejaabpdaa
open Go.ChangeShapes Go.WideShapes Go.ChangeAt Go.RowKit Go.ChangeMaps

theorem ccellsStr : Try.prog.cellsOf 9 = 1 := by kernel_rfl
theorem ccellsBool : Try.prog.cellsOf 4 = 1 := by kernel_rfl
theorem ccellsEn : Try.prog.cellsOf 36 = 3 := by kernel_rfl
theorem cbytesEn : Try.prog.bytesOf 36 = 40 := by kernel_rfl
section
variable {H : Type} {enc : TypeId × Value → H} {W : World} {base : Nat} {spare : Nat → Bool} {held : Bool}
set_option maxRecDepth 10000 in
theorem copen_en {n : Nat} {cs : List Value} {x : DataW H × List MemPlace} (hl : cs.length = 3) (h : DataW.trod enc Try.prog W base spare held n 36 cs = some x) :
    ∃ f : En, cs = encells f ∧ True ∧ ∀ M, (∀ y ∈ DataW.weights Try.prog 36 x.1, y ≤ M) → f.p.length ≤ M ∧ f.d.length ≤ M := by
  match cs, hl with
  | [c0, c1, c2], _ =>
    obtain ⟨xs, k, _, hx, _, hlen, hfs⟩ := DataW.trod_struct Try.underlying36 h
    match xs, hlen with
    | [y0, y1, y2], _ =>
      obtain ⟨s0, e0, rfl, _⟩ := DataW.trod_string Try.underlying9 (show DataW.trod enc Try.prog W base spare held k 9 [c0] = some y0 by simpa [ccellsStr] using hfs 0 _ rfl)
      obtain ⟨s1, e1, rfl, _⟩ := DataW.trod_string Try.underlying9 (show DataW.trod enc Try.prog W base spare held k 9 [c1] = some y1 by simpa [ccellsStr] using hfs 1 _ rfl)
      obtain ⟨b, e2, rfl⟩ := DataW.trod_bool Try.underlying4 (show DataW.trod enc Try.prog W base spare held k 4 [c2] = some y2 by simpa [ccellsStr, ccellsBool] using hfs 2 _ rfl)
      simp only [List.cons.injEq, and_true] at e0 e1 e2
      subst e0 e1 e2
      obtain ⟨l0, rfl⟩ := zlist_of s0
      obtain ⟨l1, rfl⟩ := zlist_of s1
      subst hx
      refine ⟨⟨l0, l1, b⟩, rfl, trivial, fun M hM => ?_⟩
      simp only [DataW.weights, Try.underlying36, List.map_cons, List.map_nil, DataW.weightsEach] at hM
      simpa using hM
theorem copen_es {fuel : Nat} {v : Value} {y : DataW H × List MemPlace} (h : DataW.trod enc Try.prog W base spare held fuel 22 [v] = some y) :
    ∃ es : List En, SeqV W v es ∧ ∀ M, (∀ x ∈ DataW.weights Try.prog 22 y.1, x ≤ M) → es.length * 40 ≤ M ∧ ∀ x ∈ es, x.p.length ≤ M ∧ x.d.length ≤ M := by
  obtain ⟨es, h1, _, h3⟩ := open_seqP noneE Try.underlying22 ccellsEn (by decide) cbytesEn (fun _ => True) (fun M x => x.p.length ≤ M ∧ x.d.length ≤ M) copen_en h
  exact ⟨es, h1, h3⟩
theorem open_entries {r : Reach} {b0 : Nat} {v : Value} {d : DataW H} {p : List MemPlace} (hv : Value.okWide Try.prog W r b0 22 v) (h : DataW.Trod enc Try.prog W base spare held 22 v d p) :
    ∃ es : List En, SeqV W v es ∧ ∀ M, (∀ x ∈ DataW.weights Try.prog 22 d, x ≤ M) → es.length * 40 ≤ M ∧ ∀ x ∈ es, x.p.length ≤ M ∧ x.d.length ≤ M := by
  obtain ⟨fuel, hf⟩ := h
  obtain ⟨sa, sl, sc, rfl⟩ := okWide_slice Try.underlying22 hv
  exact copen_es (y := (d, p)) (show DataW.trod enc Try.prog W base spare held fuel 22 [.slice sa sl sc] = some (d, p) by simpa [Value.cells] using hf)
set_option maxRecDepth 10000 in
theorem open_entry {r : Reach} {b0 : Nat} {v : Value} {d : DataW H} {p : List MemPlace} (hv : Value.okWide Try.prog W r b0 36 v) (h : DataW.Trod enc Try.prog W base spare held 36 v d p) :
    ∃ e : En, v = enV e ∧ ∀ M, (∀ y ∈ DataW.weights Try.prog 36 d, y ≤ M) → e.p.length ≤ M ∧ e.d.length ≤ M := by
  obtain ⟨cs, rfl, hsz⟩ := okWide_struct Try.underlying36 hv
  obtain ⟨fuel, hf⟩ := h
  obtain ⟨f, h1, _, h3⟩ := copen_en (hsz.trans ccellsEn) (show DataW.trod enc Try.prog W base spare held fuel 36 cs.toList = some (d, p) by simpa [Value.cells] using hf)
  refine ⟨f, ?_, h3⟩
  obtain ⟨l⟩ := cs
  simp only at h1
  subst h1
  rfl
end
end Go.Proofs.Ytdefdbejaabpdaa
