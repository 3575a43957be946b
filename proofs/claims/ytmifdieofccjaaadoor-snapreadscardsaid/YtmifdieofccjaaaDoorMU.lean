/-
  aviaryref.ReadSnap: the walk.
-/
import Derived.Test.YtmifdieofccjaaaDoorMT
namespace Go.Proofs.YtmifdieofccjaaaDoor
open Go.RowKit

theorem numOf_list (l : List UInt8) (hl : l.length ≤ 8) (W : World) :
    Calls Tryd.prog 34 #[.string ⟨l.toArray⟩] W fun e w' => e = .returned (.int .i64 (wrap64 (un l : Nat))) ∧ Below W.heap.size W w' :=
  numberOf_any ⟨l.toArray⟩ W (by rw [Lib.size_eq]; exact hl)
theorem un_tk (k : Nat) (hk : k ≤ 4) (r : List UInt8) (b : Bool) : un (tkA k r b) < 4294967296 := by
  have h := un_lt (tkA k r b)
  have h2 : 256 ^ (tkA k r b).length ≤ 256 ^ 4 := Nat.pow_le_pow_right (by decide) (by have := tkA_len k r b; omega)
  rw [p256_4] at h2
  omega
theorem rdok_parT1 {w k : Nat} {r r1 : List UInt8} {b b1 : Bool} {l : List Int} (h : RdOk (parI w k) r b l r1 b1) : RdOk (parI w (k + 1)) r b (l ++ [wrap64 (un (tkA w r1 b1) : Nat)]) (tkR w r1 b1) (b1 || decide (r1.length < w)) :=
  rdok_eq (parI_snoc w k r) (rdok_seq h (rdok_seq (rdok_take w r1 b1) (rdok_ret _ _ _)))
theorem tkr_new (s : List UInt8) (w : World) : Tkr (w.alloc (.cells #[.string ⟨s.toArray⟩, .bool false] 56)) w.heap.size s false := heap_alloc_new w _
/-- a node in a box -/
def XAt (W : World) (X : Nat) (p d : List UInt8) (l : List Int) : Prop := W.heap[X]? = some (.cells (ndC p d l).toArray 47 (0, 0))
section
variable {W V : World} {X : Nat} {p d : List UInt8} {l : List Int}
theorem XAt.lt (h : XAt W X p d l) : X < W.heap.size := (Array.getElem?_eq_some_iff.1 h).1
theorem XAt.next (h : XAt W X p d l) (hb : Below W.heap.size W V) : XAt V X p d l := (hb.block _ h.lt).trans h
theorem XAt.only {g : Nat} (h : XAt W X p d l) (ho : Only g W V) (hg : X ≠ g) : XAt V X p d l := (ho.block _ hg).trans h
theorem XAt.other (h : XAt W X p d l) {k : Nat} (j : Nat) (v : Value) (hk : X ≠ k) : XAt (W.setCell ⟨k, j, none⟩ v) X p d l := (Below.heap_setCell _ _ _ _ hk).trans h
theorem XAt.put (h : XAt W X p d l) (j : Nat) (v : Value) {p' d' : List UInt8} {l' : List Int} (e : (ndC p d l).set j v = ndC p' d' l') : XAt (W.setCell ⟨X, j, none⟩ v) X p' d' l' := by
  unfold XAt
  rw [cur_set v h, ← e]
  simp
theorem XAt.cell (h : XAt W X p d l) (j : Nat) : W.cell? ⟨X, j, none⟩ = (ndC p d l)[j]? := by
  unfold XAt at h
  simp [World.cell?, h]
theorem XAt.f (h : XAt W X p d l) (j : Nat) : W.frozen? ⟨X, j, none⟩ = false := by
  unfold XAt at h
  simp [World.frozen?, h]
end
/-- seven numbers in a box -/
def YAt (W : World) (Y : Nat) (m : List Int) : Prop := W.heap[Y]? = some (.cells (m.map (.int .i64 ·)).toArray 58 (0, 0))
section
variable {W V : World} {Y : Nat} {m : List Int}
theorem YAt.lt (h : YAt W Y m) : Y < W.heap.size := (Array.getElem?_eq_some_iff.1 h).1
theorem YAt.next (h : YAt W Y m) (hb : Below W.heap.size W V) : YAt V Y m := (hb.block _ h.lt).trans h
theorem YAt.only {g : Nat} (h : YAt W Y m) (ho : Only g W V) (hg : Y ≠ g) : YAt V Y m := (ho.block _ hg).trans h
theorem YAt.put (h : YAt W Y m) (j : Nat) (y : Int) : YAt (W.setCell ⟨Y, j, none⟩ (.int .i64 y)) Y (m.set j y) := by
  unfold YAt
  rw [cur_set _ h, List.map_set]
  simp
theorem YAt.cell (h : YAt W Y m) {j : Nat} {y : Int} (hj : m[j]? = some y) : W.cell? ⟨Y, j, none⟩ = some (.int .i64 y) := by
  unfold YAt at h
  simp [World.cell?, h, hj]
theorem YAt.f (h : YAt W Y m) (j : Nat) : W.frozen? ⟨Y, j, none⟩ = false := by
  unfold YAt at h
  simp [World.frozen?, h]
end
theorem wpList_app_nB {w : World} {ops : Array Oper} {rest : List Oper} {o : Oper} {a : Act} {Q : Exit → Act → World → Prop} (hgd : o.guard = none) (s x : Operand)
    (ho : o.op = .call { callee := .builtin .append, args := #[s, x], argTypes := #[22, 22] })
    (B : Nat) (v : Value) (ns : List Nd) (hs : a.eval s = v) (hown : OwnS w B v ns) (q : Nat) (hx : a.eval x = .slice (some ⟨q, 0, none⟩) 1 1) (t : Nd) (hnews : OneR w q t) (hl : ns.length ≤ 4294967296) (hB : B ≤ w.heap.size)
    (h : ∀ a' c' w', OwnS w' B (.slice a' (ns.length + 1) c') (ns ++ [t]) → w.grownBy w' v.ownBlock → ((Value.slice a' (ns.length + 1) c').ownBlock = v.ownBlock ∨ (Value.slice a' (ns.length + 1) c').ownBlock = some w.heap.size) → wpList Tryd.prog ops Q rest (a.put o.dst (.slice a' (ns.length + 1) c')) w') :
    wpList Tryd.prog ops Q (o :: rest) a w := by
  refine wpList_plain hgd fun K hK => ?_
  obtain ⟨i0, hi0, hz0, hz1, hz2⟩ := ninfo
  obtain ⟨v', w', hr, h2, h3, _, h5⟩ := run_append_own_at (P := Tryd.prog) w B 22 o.type 47 i0 _ 9 88 Tryd.underlying22 hi0 hz0 hz1 hz2 rfl (by decide) v ns.length (cellsL ns) hown.row ⟨q, 0, none⟩ 1 1 (ncells t) rfl (one_news hnews) (Lay.one t) (by simp only [maxLen]; omega) (by omega) hB
  have h2' : OwnS w' B v' (ns ++ [t]) := OwnS.of_row (by rw [List.length_append, cellsL_snoc]; exact h2)
  obtain ⟨a', c', rfl, _⟩ := h2'.slice
  rw [List.length_append, List.length_singleton] at h2' hr h5
  unfold Oper.wp execOp
  simp only [ho, resolve, invoke, builtin, Sem.run_bind, Sem.run_pure, Result.andThen_ok, List.map_toArray, List.map_cons, List.map_nil, hs, hx, hr]
  exact hK _ _ (h a' c' w' h2' h3 h5)
theorem fill7 {w W : World} {g q B : Nat} {r : List UInt8} {b : Bool} {z : Int} {ns : List Nd} {ss : List Int} {vn vs : Value} {X : Nat} {P D : List UInt8} (h : RdS w W g q B r b z ns ss vn vs) (hx : XAt W X P D [0, 0, 0, 0, 0, 0, 0]) (hk : B ≤ X) (h1 : vn.ownBlock ≠ some X) (h2 : vs.ownBlock ≠ some X) (y0 y1 y2 y3 y4 y5 y6 : Int) (V : World)
    (hV : V = ((((((W.setCell ⟨X, 2, none⟩ (.int .i64 y0)).setCell ⟨X, 3, none⟩ (.int .i64 y1)).setCell ⟨X, 4, none⟩ (.int .i64 y2)).setCell ⟨X, 5, none⟩ (.int .i64 y3)).setCell ⟨X, 6, none⟩ (.int .i64 y4)).setCell ⟨X, 7, none⟩ (.int .i64 y5)).setCell ⟨X, 8, none⟩ (.int .i64 y6)) :
    RdS w V g q B r b z ns ss vn vs ∧ XAt V X P D [y0, y1, y2, y3, y4, y5, y6] := by
  subst hV
  exact ⟨((((((h.set _ _ hk h1 h2).set _ _ hk h1 h2).set _ _ hk h1 h2).set _ _ hk h1 h2).set _ _ hk h1 h2).set _ _ hk h1 h2).set _ _ hk h1 h2,
    ((((((hx.put 2 (.int .i64 y0) (p' := P) (d' := D) (l' := [y0, 0, 0, 0, 0, 0, 0]) rfl).put 3 (.int .i64 y1) (p' := P) (d' := D) (l' := [y0, y1, 0, 0, 0, 0, 0]) rfl).put 4 (.int .i64 y2) (p' := P) (d' := D) (l' := [y0, y1, y2, 0, 0, 0, 0]) rfl).put 5 (.int .i64 y3) (p' := P) (d' := D) (l' := [y0, y1, y2, y3, 0, 0, 0]) rfl).put 6 (.int .i64 y4) (p' := P) (d' := D) (l' := [y0, y1, y2, y3, y4, 0, 0]) rfl).put 7 (.int .i64 y5) (p' := P) (d' := D) (l' := [y0, y1, y2, y3, y4, y5, 0]) rfl).put 8 (.int .i64 y6) (p' := P) (d' := D) (l' := [y0, y1, y2, y3, y4, y5, y6]) rfl⟩
theorem RdS.new {w W : World} {g : Nat} {r : List UInt8} {b : Bool} (z : Int) (h : ZB w W) (hc : Tkr W g r b) (hg : w.heap.size < g) : RdS w (W.alloc (.cells #[.int .i64 z, .slice none 0 0, .slice none 0 0] 25)) g W.heap.size (W.heap.size + 1) r b z [] [] (.slice none 0 0) (.slice none 0 0) := by
  have hl := h.lt
  have hgl : g < W.heap.size := (Array.getElem?_eq_some_iff.1 hc).1
  exact ⟨((allocB _ _).block _ hl).trans h.x, heap_alloc_new W _, .inl ⟨rfl, rfl⟩, .inl ⟨rfl, rfl⟩, (fun k e => by cases e), ((allocB _ _).block _ hgl).trans hc, hg, hl, by omega, by omega, by omega, nnext h.b (allocB _ _)⟩

set_option maxRecDepth 20000 in
set_option maxHeartbeats 8000000 in
theorem rread_any (s : List UInt8) (w : World) (hs : s.length ≤ 140737488355328) :
    Calls Tryd.prog 13 #[.string ⟨s.toArray⟩] w (ReadG s w) := by
  have Z0 := hide (ZB.new w)
  by_cases h5 : 5 ≤ s.length
  · obtain ⟨n, hn⟩ : ∃ n, s.length = n + 4 := ⟨s.length - 4, by omega⟩
    have hz : (ByteArray.mk s.toArray).size = n + 4 := (Lib.size_eq ⟨s.toArray⟩).trans hn
    have hn1 : 1 ≤ n := by omega
    have hpos : 0 < (ByteArray.mk s.toArray).size := by rw [hz]; omega
    have hne : decide ((n : Int) + 4 < 5) = false := decide_eq_false (by omega)
    have hcase : (((((ByteArray.mk s.toArray)[0]'hpos).toNat : Int) != 83) = false ∧ begB s = true) ∨ (((((ByteArray.mk s.toArray)[0]'hpos).toNat : Int) != 83) = true ∧ begB s = false) := by
      obtain ⟨c, l, rfl⟩ : ∃ c l, s = c :: l := by
        cases s with
        | nil => simp at h5
        | cons c l => exact ⟨c, l, rfl⟩
      have e0 : (ByteArray.mk (c :: l).toArray)[0]'hpos = c := rfl
      rw [e0]
      by_cases hc : c = 83
      · subst hc
        exact .inl ⟨rfl, by have h4 : 4 ≤ l.length := (by simpa using h5); simp [begB, h4]⟩
      · refine .inr ⟨?_, by simp [begB, hc]⟩
        simp only [bne_iff_ne, ne_eq]
        intro e
        apply hc
        apply UInt8.toNat_inj.1
        have : c.toNat = 83 := by omega
        rw [this]
        rfl
    rcases hcase with ⟨hb0, hbeg⟩ | ⟨hb0, hbeg⟩
    · have hx1 : (ByteArray.mk s.toArray).extract 0 n = ⟨(s.take n).toArray⟩ := ex_front s n
      have hx2 : (ByteArray.mk s.toArray).extract n (n + 4) = ⟨(s.drop n).toArray⟩ := by
        have := ex_back s n
        rwa [hn] at this
      have hx3 : (ByteArray.mk s.toArray).extract 1 n = ⟨((s.take n).drop 1).toArray⟩ := ex_mid s n
      have hin : (s.take n).drop 1 = inT s := by rw [inT, hn]; rfl
      have hseal : sealB s = (sumN (s.take n) == un (s.drop n)) := by rw [sealB, hn]; rfl
      have l4 : (s.drop n).length = 4 := by rw [List.length_drop]; omega
      have CS := hide (fun W => rsum_any (s.take n) W (by rw [List.length_take]; omega))
      have CN := hide (fun W => numOf_list (s.drop n) (by omega) W)
      rw [w64_nat (by have := un_lt (s.drop n); rw [l4, p256_4] at this; omega)] at CN
      rw [hin] at hx3
      have hE : sealB s = false → rdE s = 5 := fun h => by rw [rdE, if_pos hbeg, if_neg (by rw [h]; decide)]
      have hE2 : sealB s = true → rdE s = bodE (inT s) ∧ rdT s = bodR (inT s) := fun h => ⟨by rw [rdE, if_pos hbeg, if_pos h], by rw [rdT, if_pos hbeg, if_pos h]⟩
      rw [hseal] at hE hE2
      have HE := hide hE
      have HE2 := hide hE2
      have i0 : (0 : Int) ≤ (n : Int) := by omega
      have i1 : (n : Int) ≤ (n : Int) + 4 := by omega
      clear hin hseal l4 hE hE2 hbeg
      go_enter Tryd.func13, Tryd.ntmps13
      go_upto_region 4 with fail
      obtain ⟨w1, hw1⟩ : ∃ w1, w.alloc (.cells #[.int .i64 0, .slice none 0 0, .slice none 0 0] 25) = w1 := ⟨_, rfl⟩
      rw [hw1] at Z0 ⊢
      clear hw1
      go_region_held3 (fun _ => True) (trivial) (first
        | (go_at_call 34; refine (unhide CN _).mono ?_; rintro e w2 ⟨rfl, hb2⟩; have Z2 : Hid (ZB w w2) := hide (((unhide Z0).next (Below.refl _ _).drew).next hb2); clear hb2)
        | (go_at_call 27; refine (unhide CS _).mono ?_; rintro e w4 ⟨rfl, hb4⟩; have Z4 : Hid (ZB w w4) := hide ((unhide Z2).next hb4); clear hb4))
      clear CS CN Z0 Z2
      by_cases hq : un (s.drop n) = sumN (s.take n)
      · have hqb : (((un (s.drop n) : Nat) : Int) != ((sumN (s.take n) : Nat) : Int)) = false := by rw [hq]; simp
        obtain ⟨eE, eT⟩ := unhide HE2 (by simp [hq])
        have HEE := hide eE
        have HET := hide eT
        clear HE HE2 eE eT
        have K1 := hide (rdok_take 8 (inT s) false)
        have CT1 := hide (fun g W (h : Tkr W g (inT s) false) => take_any g 8 (inT s) false W (by omega) h)
        have CSg := hide (fun W => signed_any (tkA 8 (inT s) false) W (tkA_len 8 _ _))
        obtain ⟨A, hA⟩ : ∃ A, tkA 8 (inT s) false = A := ⟨_, rfl⟩
        obtain ⟨r1, hr1⟩ : ∃ x, tkR 8 (inT s) false = x := ⟨_, rfl⟩
        obtain ⟨b1, hb1⟩ : ∃ x, (false || decide ((inT s).length < 8)) = x := ⟨_, rfl⟩
        rw [hA, hr1, hb1] at K1 CT1
        rw [hA] at CSg
        obtain ⟨z, hz8⟩ : ∃ z, wrap64 (un A : Nat) = z := ⟨_, rfl⟩
        rw [hz8] at CSg
        have HZ := hide (w64_in (un A : Nat))
        rw [hz8] at HZ
        have K2 := hide (rdok_take 4 r1 b1)
        have um := un_tk 4 (by omega) r1 b1
        have CT2 := hide (fun g W (h : Tkr W g r1 b1) => take_any g 4 r1 b1 W (by omega) h)
        have CN2 := hide (fun W => numOf_list (tkA 4 r1 b1) (by have := tkA_len 4 r1 b1; omega) W)
        rw [w64_nat (by omega)] at CN2
        obtain ⟨M, hM⟩ : ∃ A, tkA 4 r1 b1 = A := ⟨_, rfl⟩
        obtain ⟨r2, hr2⟩ : ∃ x, tkR 4 r1 b1 = x := ⟨_, rfl⟩
        obtain ⟨b2, hb2⟩ : ∃ x, (b1 || decide (r1.length < 4)) = x := ⟨_, rfl⟩
        rw [hM, hr2, hb2] at K2 CT2
        rw [hM] at um CN2
        have KK : Hid (∀ ss r3 b3, RdOk (parI 4 (un M)) r2 b2 ss r3 b3 → ∀ C r4 b4, RdOk (tk 4) r3 b3 C r4 b4 → ∀ ns r5 b5, RdOk (parNs (un C)) r4 b4 ns r5 b5 → RdOk parT (inT s) false ⟨z, ns, ss⟩ r5 b5) := hide (fun ss r3 b3 h3 C r4 b4 h4 ns r5 b5 h5 => by
          rw [← hz8]
          exact rdok_seq (unhide K1) (rdok_seq (unhide K2) (rdok_seq h3 (rdok_seq h4 (rdok_seq h5 (rdok_ret _ _ _))))))
        obtain ⟨m, hm⟩ : ∃ m, un M = m := ⟨_, rfl⟩
        rw [hm] at CN2 KK um
        have hl4 := (unhide Z4).lt
        have Z5 := hide ((unhide Z4).next (allocB w4 (.cells #[.string ⟨(inT s).toArray⟩, .bool false] 56)))
        clear K1 K2 hA hr1 hb1 hM hr2 hb2 hz8 hm Z4
        go_wp2_with fail
        refine (unhide CT1 w4.heap.size _ (tkr_new (inT s) w4)).mono ?_
        rintro e w6 ⟨rfl, hc6, ho6⟩
        have Z6 := hide ((unhide Z5).only ho6 hl4)
        have TK6 := hide hc6
        obtain ⟨g, hg⟩ : ∃ g, w4.heap.size = g := ⟨_, rfl⟩
        rw [hg] at TK6 hl4 ⊢
        clear hc6 ho6 CT1 Z5 hg
        go_wp2_with fail
        refine (unhide CSg _).mono ?_
        rintro e w7 ⟨rfl, hb7⟩
        have Z7 := hide ((unhide Z6).next hb7)
        have TK7 := hide ((unhide TK6).kept hb7 (Array.getElem?_eq_some_iff.1 (unhide TK6)).1)
        have R8 := hide (RdS.new z (unhide Z7) (unhide TK7) hl4)
        clear hb7 CSg Z6 Z7 TK6 TK7
        go_wp2_with fail
        refine (unhide CT2 _ _ (unhide R8).c).mono ?_
        rintro e w8 ⟨rfl, hc8, ho8⟩
        have R9 := hide ((unhide R8).cur hc8 ho8)
        clear hc8 ho8 CT2 R8
        obtain ⟨q, hq7⟩ : ∃ q, w7.heap.size = q := ⟨_, rfl⟩
        rw [hq7] at R9 ⊢
        clear hq7
        go_wp2_with fail
        refine (unhide CN2 _).mono ?_
        rintro e w9 ⟨rfl, hb9⟩
        have Ra := hide ((unhide R9).next hb9)
        clear hb9 CN2 R9
        go_upto_block 0 with fail
        go_cut [8] from 47 to 66 (fun _t8 wx => ∃ (l : List Int) (r' : List UInt8) (b' : Bool) (va : Option Addr) (vc : Nat), Hid (RdOk (parI 4 m) r2 b2 l r' b') ∧ Hid (RdS w wx g q (q + 1) r' b' z [] l (.slice none 0 0) (.slice va l.length vc)) ∧ Hid (∀ y ∈ l, -9223372036854775808 ≤ y ∧ y ≤ 9223372036854775807) ∧ Hid (l.length ≤ 4294967296))
        case first =>
          clear KK HEE HET
          go_wp2_with fail
          go_loopg [8] m (fun kx s8 wr => ∃ (k : Nat) (l : List Int) (r' : List UInt8) (b' : Bool) (va : Option Addr) (vc : Nat), s8 = .int .i64 k ∧ k ≤ m ∧ m - k ≤ kx ∧ l.length = k ∧ Hid (RdOk (parI 4 k) r2 b2 l r' b') ∧ Hid (RdS w wr g q (q + 1) r' b' z [] l (.slice none 0 0) (.slice va l.length vc)) ∧ Hid (∀ y ∈ l, -9223372036854775808 ≤ y ∧ y ≤ 9223372036854775807))
          case atStart => exact ⟨0, [], r2, b2, none, 0, rfl, Nat.zero_le _, Nat.le_refl _, rfl, hide (rdok_ret _ _ _), Ra, hide (by simp)⟩
          case round =>
            obtain ⟨k, l, r', b', va, vc, rfl, hk, hgk, hl, hR, hU, hY⟩ := hrel
            clear Ra
            have o1 := (unhide hU).c.c1
            by_cases hlt : k < m
            · have hk1 : (k : Int) < (m : Int) := by omega
              cases b' with
              | true =>
                have hend := hide (rdok_parI_end (unhide hR) hk)
                go_wp2_with fail
                go_meet
                exact ⟨l, r', true, va, vc, hend, hU, hY, hide (by omega)⟩
              | false =>
                have CX := hide (fun W (h : Tkr W g r' false) => take_any g 4 r' false W (by omega) h)
                have CZ := hide (fun W => numOf_list (tkA 4 r' false) (by have := tkA_len 4 r' false; omega) W)
                have HR2 := hide (rdok_parT1 (unhide hR))
                have hyb := w64_in (un (tkA 4 r' false) : Nat)
                obtain ⟨y, hyv⟩ : ∃ y, wrap64 (un (tkA 4 r' false) : Nat) = y := ⟨_, rfl⟩
                obtain ⟨A5, hA5⟩ : ∃ x, tkA 4 r' false = x := ⟨_, rfl⟩
                obtain ⟨r5, hr5⟩ : ∃ x, tkR 4 r' false = x := ⟨_, rfl⟩
                obtain ⟨b5, hb5⟩ : ∃ x, (false || decide (r'.length < 4)) = x := ⟨_, rfl⟩
                rw [hyv] at CZ HR2 hyb
                rw [hA5] at CZ
                rw [hA5, hr5, hb5] at CX
                rw [hr5, hb5] at HR2
                have HY2 := hide (all_snoc (unhide hY) hyb)
                obtain ⟨c0, c1, c2⟩ := (unhide hU).cells
                have f2 := (unhide hU).f 2
                have hlt2 := (unhide hU).lt
                have hll : l.length ≤ 4294967296 := by omega
                have HL := hide hl
                clear hyv hA5 hr5 hb5 hyb hY hR hl
                go_upto_region 12 with fail
                go_region_law (first
                  | (refine step_app_iB (by kernel_rfl) _ _ (by rfl) (q + 1) (.slice va l.length vc) l (by rfl) ((unhide U6).next (allocB _ _)).s w6.heap.size (by rfl) y (one_newI w6 y) (by omega) (by have := ((unhide U6).next (allocB w6 (.cells #[.int .i64 y] 3))).lt; omega) ?_; intro a2 k2 w7 ho7 hg7 hl7; have U7 := hide (((unhide U6).next (allocB _ _)).addS hg7 ho7 hl7); obtain ⟨m3, l3⟩ := ((unhide U6).next (allocB _ _)).seenS hg7; clear ho7 hg7 hl7)
                  | (go_simp; refine (unhide CX _ (by first | exact (unhide hU).c | exact ((unhide hU).next (Below.refl _ _).drew).c)).mono ?_; rintro e w5 ⟨rfl, hc5, ho5⟩; have U5 : Hid (RdS w w5 g q (q + 1) r5 b5 z [] l (.slice none 0 0) (.slice va l.length vc)) := hide (by first | exact (unhide hU).cur hc5 ho5 | exact ((unhide hU).next (Below.refl _ _).drew).cur hc5 ho5); obtain ⟨d0, d1, d2⟩ := (unhide U5).cells; have g2 := (unhide U5).f 2; have hlt5 := (unhide U5).lt; clear hc5 ho5)
                  | (go_simp; refine (unhide CZ _).mono ?_; rintro e w6 ⟨rfl, hb6⟩; have U6 := hide ((unhide U5).next hb6); obtain ⟨e0, e1, e2⟩ := (unhide U6).cells; have g3 := (unhide U6).f 2; have hlt6 := (unhide U6).lt; obtain ⟨j0, j1, j2⟩ := ((unhide U6).next (allocB w6 (.cells #[.int .i64 y] 3))).cells; clear hb6))
                all_goals go_wp2_with fail
                all_goals
                  go_roundg (m - (k + 1))
                  case measure => omega
                  case rel => exact ⟨k + 1, l ++ [y], r5, b5, a2, k2, rfl, by omega, Nat.le_refl _, by rw [List.length_append, unhide HL]; rfl, HR2, (by rw [List.length_append, List.length_singleton]; exact U7), HY2⟩
            · obtain rfl : k = m := by omega
              go_wp2_with fail
              go_meet
              exact ⟨l, r', b', va, vc, hR, hU, hY, hide (by omega)⟩
        case rest =>
          obtain ⟨ss, r3, b3, sa, sc, hR3, hU3, hY3, HSL⟩ := hcut
          clear Ra
          have K4 := hide (rdok_take 4 r3 b3)
          have uc := un_tk 4 (by omega) r3 b3
          have CT3 := hide (fun W (h : Tkr W g r3 b3) => take_any g 4 r3 b3 W (by omega) h)
          have CN3 := hide (fun W => numOf_list (tkA 4 r3 b3) (by have := tkA_len 4 r3 b3; omega) W)
          rw [w64_nat (by omega)] at CN3
          obtain ⟨C, hC⟩ : ∃ A, tkA 4 r3 b3 = A := ⟨_, rfl⟩
          obtain ⟨r4, hr4⟩ : ∃ x, tkR 4 r3 b3 = x := ⟨_, rfl⟩
          obtain ⟨b4, hb4⟩ : ∃ x, (b3 || decide (r3.length < 4)) = x := ⟨_, rfl⟩
          rw [hC, hr4, hb4] at K4 CT3
          rw [hC] at uc CN3
          have K5 := hide (fun ns r5 b5 h => unhide KK ss r3 b3 (unhide hR3) C r4 b4 (unhide K4) ns r5 b5 h)
          obtain ⟨c, hc⟩ : ∃ m, un C = m := ⟨_, rfl⟩
          rw [hc] at CN3 K5 uc
          clear hC hr4 hb4 hc KK K4 hR3
          go_wp2_with fail
          refine (unhide CT3 _ (unhide hU3).c).mono ?_
          rintro e wb ⟨rfl, hcb, hob⟩
          have Rb := hide ((unhide hU3).cur hcb hob)
          clear hcb hob hU3 CT3
          go_wp2_with fail
          refine (unhide CN3 _).mono ?_
          rintro e wd ⟨rfl, hbd⟩
          have Rc := hide ((unhide Rb).next hbd)
          clear hbd CN3 Rb
          go_upto_block 2 with fail
          go_cut [9] from 10 to 124 (fun _t9 wx => ∃ (l : List Nd) (r' : List UInt8) (b' : Bool) (va : Option Addr) (vc : Nat), Hid (RdOk (parNs c) r4 b4 l r' b') ∧ Hid (RdS w wx g q (q + 1) r' b' z l ss (.slice va l.length vc) (.slice sa ss.length sc)) ∧ Hid (∀ n ∈ l, n.p.length ≤ 255 ∧ n.d.length ≤ 65535))
          case first =>
            clear K5 HEE HET hY3
            go_wp2_with fail
            go_loopg [9] c (fun kx s9 wr => ∃ (k : Nat) (l : List Nd) (r' : List UInt8) (b' : Bool) (va : Option Addr) (vc : Nat), s9 = .int .i64 k ∧ k ≤ c ∧ c - k ≤ kx ∧ l.length = k ∧ Hid (RdOk (parNs k) r4 b4 l r' b') ∧ Hid (RdS w wr g q (q + 1) r' b' z l ss (.slice va l.length vc) (.slice sa ss.length sc)) ∧ Hid (∀ n ∈ l, n.p.length ≤ 255 ∧ n.d.length ≤ 65535))
            case atStart => exact ⟨0, [], r4, b4, none, 0, rfl, Nat.zero_le _, Nat.le_refl _, rfl, hide (rdok_ret _ _ _), Rc, hide (by simp)⟩
            case round =>
              obtain ⟨k, l, r', b', va, vc, rfl, hk, hgk, hl, hR, hU, hY⟩ := hrel
              clear Rc
              have o1 := (unhide hU).c.c1
              by_cases hlt : k < c
              · have hk1 : (k : Int) < (c : Int) := by omega
                cases b' with
                | true =>
                  have hend := hide (rdok_parNs_end (unhide hR) hk)
                  go_wp2_with fail
                  go_meet
                  exact ⟨l, r', true, va, vc, hend, hU, hY⟩
                | false =>
                  have hll : l.length ≤ 4294967296 := by omega
                  have HL := hide hl
                  have J1 := hide (rdok_take 1 r' false)
                  have ua : un (tkA 1 r' false) < 256 := by
                    have h := un_lt (tkA 1 r' false)
                    have h2 : 256 ^ (tkA 1 r' false).length ≤ 256 ^ 1 := Nat.pow_le_pow_right (by decide) (tkA_len 1 r' false)
                    rw [p256_1] at h2
                    omega
                  have D1 := hide (fun W (h : Tkr W g r' false) => take_any g 1 r' false W (by omega) h)
                  have D2 := hide (fun W => numOf_list (tkA 1 r' false) (by have := tkA_len 1 r' false; omega) W)
                  rw [w64_nat (by omega)] at D2
                  obtain ⟨A1, hA1⟩ : ∃ A, tkA 1 r' false = A := ⟨_, rfl⟩
                  obtain ⟨u1, hu1⟩ : ∃ x, tkR 1 r' false = x := ⟨_, rfl⟩
                  obtain ⟨v1, hv1⟩ : ∃ x, (false || decide (r'.length < 1)) = x := ⟨_, rfl⟩
                  rw [hA1, hu1, hv1] at J1 D1
                  rw [hA1] at D2 ua
                  have J2 := hide (rdok_take (un A1) u1 v1)
                  have D3 := hide (fun W (h : Tkr W g u1 v1) => take_any g (un A1) u1 v1 W (by omega) h)
                  have lP := tkA_len (un A1) u1 v1
                  obtain ⟨P, hP⟩ : ∃ P, tkA (un A1) u1 v1 = P := ⟨_, rfl⟩
                  obtain ⟨u2, hu2⟩ : ∃ x, tkR (un A1) u1 v1 = x := ⟨_, rfl⟩
                  obtain ⟨v2, hv2⟩ : ∃ x, (v1 || decide (u1.length < un A1)) = x := ⟨_, rfl⟩
                  rw [hP, hu2, hv2] at J2 D3
                  rw [hP] at lP
                  have J3 := hide (rdok_take 2 u2 v2)
                  have ud : un (tkA 2 u2 v2) < 65536 := by
                    have h := un_lt (tkA 2 u2 v2)
                    have h2 : 256 ^ (tkA 2 u2 v2).length ≤ 256 ^ 2 := Nat.pow_le_pow_right (by decide) (tkA_len 2 u2 v2)
                    rw [p256_2] at h2
                    omega
                  have D4 := hide (fun W (h : Tkr W g u2 v2) => take_any g 2 u2 v2 W (by omega) h)
                  have D5 := hide (fun W => numOf_list (tkA 2 u2 v2) (by have := tkA_len 2 u2 v2; omega) W)
                  rw [w64_nat (by omega)] at D5
                  obtain ⟨E1, hE1⟩ : ∃ A, tkA 2 u2 v2 = A := ⟨_, rfl⟩
                  obtain ⟨u3, hu3⟩ : ∃ x, tkR 2 u2 v2 = x := ⟨_, rfl⟩
                  obtain ⟨v3, hv3⟩ : ∃ x, (v2 || decide (u2.length < 2)) = x := ⟨_, rfl⟩
                  rw [hE1, hu3, hv3] at J3 D4
                  rw [hE1] at D5 ud
                  have J4 := hide (rdok_take (un E1) u3 v3)
                  have D6 := hide (fun W (h : Tkr W g u3 v3) => take_any g (un E1) u3 v3 W (by omega) h)
                  have lD := tkA_len (un E1) u3 v3
                  obtain ⟨D, hD⟩ : ∃ P, tkA (un E1) u3 v3 = P := ⟨_, rfl⟩
                  obtain ⟨u4, hu4⟩ : ∃ x, tkR (un E1) u3 v3 = x := ⟨_, rfl⟩
                  obtain ⟨v4, hv4⟩ : ∃ x, (v3 || decide (u3.length < un E1)) = x := ⟨_, rfl⟩
                  rw [hD, hu4, hv4] at J4 D6
                  rw [hD] at lD
                  have JJ : Hid (∀ x r5 b5, RdOk (parI 8 7) u4 v4 x r5 b5 → RdOk parN r' false (ndOf P D x) r5 b5) := hide (fun x r5 b5 h => rdok_seq (unhide J1) (rdok_seq (unhide J2) (rdok_seq (unhide J3) (rdok_seq (unhide J4) (rdok_seq h (rdok_ret _ _ _))))))
                  obtain ⟨ka, hka⟩ : ∃ x, un A1 = x := ⟨_, rfl⟩
                  obtain ⟨ke, hke⟩ : ∃ x, un E1 = x := ⟨_, rfl⟩
                  rw [hka] at D2 D3 ua lP
                  rw [hke] at D5 D6 ud lD
                  have X0 : Hid (XAt (wr.alloc (.cells #[.string ⟨#[]⟩, .string ⟨#[]⟩, .int .i64 0, .int .i64 0, .int .i64 0, .int .i64 0, .int .i64 0, .int .i64 0, .int .i64 0] 47)) wr.heap.size [] [] [0, 0, 0, 0, 0, 0, 0]) := hide (heap_alloc_new wr _)
                  have S0 := hide ((unhide hU).next (allocB wr (.cells #[.string ⟨#[]⟩, .string ⟨#[]⟩, .int .i64 0, .int .i64 0, .int .i64 0, .int .i64 0, .int .i64 0, .int .i64 0, .int .i64 0] 47)))
                  obtain ⟨hq8, hg8, hw8⟩ := (unhide hU).lt
                  have offN : (Value.slice va l.length vc).ownBlock ≠ some wr.heap.size := fun e => by have := own_lt (unhide hU).n e; omega
                  have offS : (Value.slice sa ss.length sc).ownBlock ≠ some wr.heap.size := fun e => by have := own_lt (unhide hU).s e; omega
                  have HoN := hide offN
                  have HoS := hide offS
                  clear J1 J2 J3 J4 hA1 hu1 hv1 hP hu2 hv2 hE1 hu3 hv3 hD hu4 hv4 hka hke hl offN offS
                  go_wp2_with fail
                  obtain ⟨X, hX⟩ : ∃ X, wr.heap.size = X := ⟨_, rfl⟩
                  obtain ⟨W1, hW1⟩ : ∃ W1, wr.alloc (.cells #[.string ⟨#[]⟩, .string ⟨#[]⟩, .int .i64 0, .int .i64 0, .int .i64 0, .int .i64 0, .int .i64 0, .int .i64 0, .int .i64 0] 47) = W1 := ⟨_, rfl⟩
                  rw [hW1] at X0 S0 ⊢
                  rw [hX] at X0 HoN HoS hq8 hg8 hw8 ⊢
                  clear hX hW1 o1
                  have hXg : X ≠ g := by omega
                  refine (unhide D1 _ (unhide S0).c).mono ?_
                  rintro e x1 ⟨rfl, hc1, ho1⟩
                  have S1 := hide ((unhide S0).cur hc1 ho1)
                  have X1 := hide ((unhide X0).only ho1 hXg)
                  clear hc1 ho1 D1 S0 X0
                  go_wp2_with fail
                  refine (unhide D2 _).mono ?_
                  rintro e x2 ⟨rfl, hb2⟩
                  have S2 := hide ((unhide S1).next hb2)
                  have X2 := hide ((unhide X1).next hb2)
                  clear hb2 D2 S1 X1
                  go_wp2_with fail
                  refine (unhide D3 _ (unhide S2).c).mono ?_
                  rintro e x3 ⟨rfl, hc3, ho3⟩
                  have S3 := hide ((unhide S2).cur hc3 ho3)
                  have X3 := hide ((unhide X2).only ho3 hXg)
                  clear hc3 ho3 D3 S2 X2
                  have d0 := (unhide X3).cell 0
                  have f0 := (unhide X3).f 0
                  simp only [ndC, List.getElem?_cons_zero] at d0
                  have S4 := hide ((unhide S3).set 0 (.string ⟨P.toArray⟩) (k := X) (by omega) (unhide HoN) (unhide HoS))
                  have X4 := hide ((unhide X3).put 0 (.string ⟨P.toArray⟩) (p' := P) (d' := []) (l' := [0, 0, 0, 0, 0, 0, 0]) rfl)
                  clear S3 X3
                  go_wp2_with fail
                  refine (unhide D4 _ (unhide S4).c).mono ?_
                  rintro e x5 ⟨rfl, hc5, ho5⟩
                  have S5 := hide ((unhide S4).cur hc5 ho5)
                  have X5 := hide ((unhide X4).only ho5 hXg)
                  clear hc5 ho5 D4 S4 X4 d0 f0
                  go_wp2_with fail
                  refine (unhide D5 _).mono ?_
                  rintro e x6 ⟨rfl, hb6⟩
                  have S6 := hide ((unhide S5).next hb6)
                  have X6 := hide ((unhide X5).next hb6)
                  clear hb6 D5 S5 X5
                  go_wp2_with fail
                  refine (unhide D6 _ (unhide S6).c).mono ?_
                  rintro e x7 ⟨rfl, hc7, ho7⟩
                  have S7 := hide ((unhide S6).cur hc7 ho7)
                  have X7 := hide ((unhide X6).only ho7 hXg)
                  clear hc7 ho7 D6 S6 X6
                  have d0 := (unhide X7).cell 1
                  have f0 := (unhide X7).f 1
                  simp only [ndC, List.getElem?_cons_succ, List.getElem?_cons_zero] at d0
                  have S8 := hide ((unhide S7).set 1 (.string ⟨D.toArray⟩) (k := X) (by omega) (unhide HoN) (unhide HoS))
                  have X8 := hide ((unhide X7).put 1 (.string ⟨D.toArray⟩) (p' := P) (d' := D) (l' := [0, 0, 0, 0, 0, 0, 0]) rfl)
                  clear S7 X7
                  go_wp2_with fail
                  have hXl := (unhide X8).lt
                  have Y0 : Hid (YAt ((x7.setCell ⟨X, 1, none⟩ (.string ⟨D.toArray⟩)).alloc (.cells #[.int .i64 0, .int .i64 0, .int .i64 0, .int .i64 0, .int .i64 0, .int .i64 0, .int .i64 0] 58)) (x7.setCell ⟨X, 1, none⟩ (.string ⟨D.toArray⟩)).heap.size [0, 0, 0, 0, 0, 0, 0]) := hide (heap_alloc_new _ _)
                  have S9 := hide ((unhide S8).next (allocB _ (.cells #[.int .i64 0, .int .i64 0, .int .i64 0, .int .i64 0, .int .i64 0, .int .i64 0, .int .i64 0] 58)))
                  have X9 := hide ((unhide X8).next (allocB _ (.cells #[.int .i64 0, .int .i64 0, .int .i64 0, .int .i64 0, .int .i64 0, .int .i64 0, .int .i64 0] 58)))
                  have oyN : (Value.slice va l.length vc).ownBlock ≠ some (x7.setCell ⟨X, 1, none⟩ (.string ⟨D.toArray⟩)).heap.size := fun e => by have := own_lt (unhide S8).n e; omega
                  have oyS : (Value.slice sa ss.length sc).ownBlock ≠ some (x7.setCell ⟨X, 1, none⟩ (.string ⟨D.toArray⟩)).heap.size := fun e => by have := own_lt (unhide S8).s e; omega
                  obtain ⟨lq8, lg8, lw8⟩ := (unhide S8).lt
                  have hsz : (x7.setCell ⟨X, 1, none⟩ (.string ⟨D.toArray⟩)).heap.size = x7.heap.size := by simp [World.setCell]
                  obtain ⟨W2, hW2⟩ : ∃ W2, (x7.setCell ⟨X, 1, none⟩ (.string ⟨D.toArray⟩)).alloc (.cells #[.int .i64 0, .int .i64 0, .int .i64 0, .int .i64 0, .int .i64 0, .int .i64 0, .int .i64 0] 58) = W2 := ⟨_, rfl⟩
                  rw [hW2] at Y0 S9 X9 ⊢
                  rw [hsz] at Y0 oyN oyS hXl lq8 lg8 lw8
                  obtain ⟨Y, hYY⟩ : ∃ Y, x7.heap.size = Y := ⟨_, rfl⟩
                  rw [hYY] at Y0 oyN oyS hXl lq8 lg8 lw8 ⊢
                  have HyN := hide oyN
                  have HyS := hide oyS
                  clear hW2 hsz hYY S8 X8 d0 f0 oyN oyS
                  have hYg : Y ≠ g := by omega
                  have hXY : X ≠ Y := by omega
                  go_loopg [94] 7 (fun kx s94 wv => ∃ (j : Nat) (x : List Int) (r5 : List UInt8) (b5 : Bool), s94 = .int .i64 j ∧ j ≤ 7 ∧ 7 - j ≤ kx ∧ x.length = j ∧ Hid (RdOk (parI 8 j) u4 v4 x r5 b5) ∧ Hid (RdS w wv g q (q + 1) r5 b5 z l ss (.slice va l.length vc) (.slice sa ss.length sc)) ∧ Hid (XAt wv X P D [0, 0, 0, 0, 0, 0, 0]) ∧ Hid (YAt wv Y (x ++ List.replicate (7 - j) 0)))
                  case atStart => exact ⟨0, [], u4, v4, rfl, by omega, by omega, rfl, hide (rdok_ret _ _ _), S9, X9, Y0⟩
                  case round =>
                    obtain ⟨j, x, r5, b5, rfl, hj, hgj, hxl, hR5, hS5, hX5, hY5⟩ := hrel
                    clear S9 X9 Y0
                    by_cases hlj : j < 7
                    · have G1 := hide (fun W (h : Tkr W g r5 b5) => take_any g 8 r5 b5 W (by omega) h)
                      have G2 := hide (fun W => signed_any (tkA 8 r5 b5) W (tkA_len 8 _ _))
                      have HR6 := hide (rdok_parT1 (unhide hR5))
                      obtain ⟨y, hyv⟩ : ∃ y, wrap64 (un (tkA 8 r5 b5) : Nat) = y := ⟨_, rfl⟩
                      obtain ⟨A8, hA8⟩ : ∃ x, tkA 8 r5 b5 = x := ⟨_, rfl⟩
                      obtain ⟨r6, hr6⟩ : ∃ x, tkR 8 r5 b5 = x := ⟨_, rfl⟩
                      obtain ⟨b6, hb6⟩ : ∃ x, (b5 || decide (r5.length < 8)) = x := ⟨_, rfl⟩
                      rw [hyv] at G2 HR6
                      rw [hA8] at G2
                      rw [hA8, hr6, hb6] at G1
                      rw [hr6, hb6] at HR6
                      have HSet : Hid ((x ++ List.replicate (7 - j) 0).set j y = (x ++ [y]) ++ List.replicate (7 - (j + 1)) 0) := hide (nset_zero hxl hlj y)
                      have hj0 : (0 : Int) ≤ (j : Int) := by omega
                      have hj1 : (j : Int) < 7 := by omega
                      have hlen : j < (x ++ List.replicate (7 - j) (0 : Int)).length := by rw [List.length_append, List.length_replicate]; omega
                      obtain ⟨y9, hy9⟩ : ∃ y9, (x ++ List.replicate (7 - j) (0 : Int))[j]? = some y9 := ⟨_, List.getElem?_eq_getElem hlen⟩
                      have HY9 := hide hy9
                      have HXL := hide hxl
                      clear hyv hA8 hr6 hb6 hlen hy9 hxl hR5
                      go_wp2_with fail
                      refine (unhide G1 _ (unhide hS5).c).mono ?_
                      rintro e y1 ⟨rfl, hc1, ho1⟩
                      have S1 := hide ((unhide hS5).cur hc1 ho1)
                      have X1 := hide ((unhide hX5).only ho1 hXg)
                      have Y1 := hide ((unhide hY5).only ho1 hYg)
                      clear hc1 ho1 G1 hS5 hX5 hY5
                      go_wp2_with fail
                      refine (unhide G2 _).mono ?_
                      rintro e y2 ⟨rfl, hb2⟩
                      have S2 := hide ((unhide S1).next hb2)
                      have X2 := hide ((unhide X1).next hb2)
                      have Y2 := hide ((unhide Y1).next hb2)
                      have d0 := (unhide Y2).cell (unhide HY9)
                      have f0 := (unhide Y2).f j
                      have S3 := hide ((unhide S2).set j (.int .i64 y) (k := Y) (by omega) (unhide HyN) (unhide HyS))
                      have X3 := hide ((unhide X2).other j (.int .i64 y) hXY)
                      have Y3 : Hid (YAt (y2.setCell ⟨Y, j, none⟩ (.int .i64 y)) Y ((x ++ [y]) ++ List.replicate (7 - (j + 1)) 0)) := hide (by rw [← unhide HSet]; exact (unhide Y2).put j y)
                      clear hb2 G2 S1 X1 Y1 S2 X2 Y2
                      go_wp2_with fail
                      go_roundg (7 - (j + 1))
                      case measure => omega
                      case rel => exact ⟨j + 1, x ++ [y], r6, b6, rfl, by omega, Nat.le_refl _, by rw [List.length_append, unhide HXL]; rfl, HR6, S3, X3, Y3⟩
                    · obtain rfl : j = 7 := by omega
                      have HK := hide (unhide JJ _ _ _ (unhide hR5))
                      have h7 : 7 - 7 = 0 := rfl
                      rw [h7, List.replicate_zero, List.append_nil] at hY5
                      match x, hxl with
                      | [y0, y1, y2, y3, y4, y5, y6], _ =>
                        have d0 := (unhide hY5).cell (j := 0) rfl
                        have d1 := (unhide hY5).cell (j := 1) rfl
                        have d2 := (unhide hY5).cell (j := 2) rfl
                        have d3 := (unhide hY5).cell (j := 3) rfl
                        have d4 := (unhide hY5).cell (j := 4) rfl
                        have d5 := (unhide hY5).cell (j := 5) rfl
                        have d6 := (unhide hY5).cell (j := 6) rfl
                        have e2 := (unhide hX5).cell 2
                        have e3 := (unhide hX5).cell 3
                        have e4 := (unhide hX5).cell 4
                        have e5 := (unhide hX5).cell 5
                        have e6 := (unhide hX5).cell 6
                        have e7 := (unhide hX5).cell 7
                        have e8 := (unhide hX5).cell 8
                        simp only [ndC, List.map_cons, List.map_nil, List.getElem?_cons_succ, List.getElem?_cons_zero] at e2 e3 e4 e5 e6 e7 e8
                        have f2 := (unhide hX5).f 2
                        have f3 := (unhide hX5).f 3
                        have f4 := (unhide hX5).f 4
                        have f5 := (unhide hX5).f 5
                        have f6 := (unhide hX5).f 6
                        have f7 := (unhide hX5).f 7
                        have f8 := (unhide hX5).f 8
                        obtain ⟨V, hV⟩ : ∃ V, V = ((((((wr.setCell ⟨X, 2, none⟩ (.int .i64 y0)).setCell ⟨X, 3, none⟩ (.int .i64 y1)).setCell ⟨X, 4, none⟩ (.int .i64 y2)).setCell ⟨X, 5, none⟩ (.int .i64 y3)).setCell ⟨X, 6, none⟩ (.int .i64 y4)).setCell ⟨X, 7, none⟩ (.int .i64 y5)).setCell ⟨X, 8, none⟩ (.int .i64 y6) := ⟨_, rfl⟩
                        obtain ⟨sV, xV⟩ := fill7 (unhide hS5) (unhide hX5) (by omega) (unhide HoN) (unhide HoS) y0 y1 y2 y3 y4 y5 y6 V hV
                        have SV := hide sV
                        have XV := hide xV
                        have HV := hide hV
                        clear sV xV hV hS5 hX5 hY5 hR5 JJ
                        go_upto_region 27 with fail
                        rw [← unhide HV]
                        clear HV d0 d1 d2 d3 d4 d5 d6 e2 e3 e4 e5 e6 e7 e8 f2 f3 f4 f5 f6 f7 f8
                        obtain ⟨c0, c1, c2⟩ := (unhide SV).cells
                        have e0 := (unhide XV).cell 0
                        have e1 := (unhide XV).cell 1
                        have e2 := (unhide XV).cell 2
                        have e3 := (unhide XV).cell 3
                        have e4 := (unhide XV).cell 4
                        have e5 := (unhide XV).cell 5
                        have e6 := (unhide XV).cell 6
                        have e7 := (unhide XV).cell 7
                        have e8 := (unhide XV).cell 8
                        simp only [ndC, List.map_cons, List.map_nil, List.getElem?_cons_succ, List.getElem?_cons_zero] at e0 e1 e2 e3 e4 e5 e6 e7 e8
                        have SA := hide ((unhide SV).next (allocB V (.cells #[.string ⟨P.toArray⟩, .string ⟨D.toArray⟩, .int .i64 y0, .int .i64 y1, .int .i64 y2, .int .i64 y3, .int .i64 y4, .int .i64 y5, .int .i64 y6] 47)))
                        have hlA := (unhide SA).lt.1
                        have HsA : Hid ((V.alloc (.cells #[.string ⟨P.toArray⟩, .string ⟨D.toArray⟩, .int .i64 y0, .int .i64 y1, .int .i64 y2, .int .i64 y3, .int .i64 y4, .int .i64 y5, .int .i64 y6] 47)).heap.size = V.heap.size + 1) := hide (by simp)
                        have HOne : Hid (OneR (V.alloc (.cells #[.string ⟨P.toArray⟩, .string ⟨D.toArray⟩, .int .i64 y0, .int .i64 y1, .int .i64 y2, .int .i64 y3, .int .i64 y4, .int .i64 y5, .int .i64 y6] 47)) V.heap.size (ndOf P D [y0, y1, y2, y3, y4, y5, y6])) := hide (one_newN V (ndOf P D [y0, y1, y2, y3, y4, y5, y6]))
                        have lP2 : P.length ≤ 255 := by omega
                        have lD2 : D.length ≤ 65535 := by omega
                        clear XV
                        go_wp2_with (at_builtin; refine wpList_app_nB rfl _ _ rfl (q + 1) (.slice va l.length vc) l rfl (unhide SA).n V.heap.size rfl (ndOf P D [y0, y1, y2, y3, y4, y5, y6]) (unhide HOne) (by omega) (by omega) ?_)
                        intro a2 k2 w7 ho7 hg7 hl7
                        have U7 := hide ((unhide SA).addN hg7 ho7 (by rw [unhide HsA]; exact hl7))
                        obtain ⟨m3, l3⟩ := (unhide SA).seenN hg7
                        clear ho7 hg7 hl7 SA SV HOne
                        go_wp2_with fail
                        go_roundg (c - (k + 1))
                        case measure => omega
                        case rel => exact ⟨k + 1, l ++ [ndOf P D [y0, y1, y2, y3, y4, y5, y6]], _, _, a2, k2, rfl, by omega, Nat.le_refl _, by rw [List.length_append, unhide HL]; rfl, hide (rdok_parNs (unhide hR) (unhide HK)), (by rw [List.length_append, List.length_singleton]; exact U7), hide (all_snoc (unhide hY) ⟨lP2, lD2⟩)⟩
              · obtain rfl : k = c := by omega
                go_wp2_with fail
                go_meet
                exact ⟨l, r', b', va, vc, hR, hU, hY⟩
          case rest =>
            obtain ⟨ns, r5, b5, na, nc, hR5, hU5, hN5⟩ := hcut
            clear Rc
            have HK := hide (unhide K5 ns r5 b5 (unhide hR5))
            obtain ⟨WH1, WH2⟩ := rdok_whole (unhide HK)
            have o0 := (unhide hU5).c.c0
            have o1 := (unhide hU5).c.c1
            have HW1 := hide WH1
            have HW2 := hide WH2
            clear hR5 K5 HK WH1 WH2
            cases b5 with
            | true =>
              have hE2 : rdE s = 2 := (unhide HEE).trans (unhide HW1 (.inl rfl)).1
              have NO := hide (fun (e : Ending) w' => readG_no (s := s) (w := w) (w' := w') (e := e) hE2 (by decide))
              obtain ⟨⟨z0, z1, z2⟩, z3, z4, z5⟩ := ((unhide hU5).zb).cells
              obtain ⟨W9, hW9⟩ : ∃ V, V = (((wc.setCell ⟨w.heap.size, 0, none⟩ (.int .i64 0)).setCell ⟨w.heap.size, 1, none⟩ (.slice none 0 0)).setCell ⟨w.heap.size, 2, none⟩ (.slice none 0 0)) := ⟨_, rfl⟩
              obtain ⟨⟨t0, t1, t2⟩, hb9⟩ := ((unhide hU5).zb).fill _ _ _ hW9
              have FIN := hide (unhide NO _ W9 rfl hb9)
              have HW9 := hide hW9
              clear NO hb9 hW9
              clear HEE HET HW1 HW2 hE2 hU5 hN5 hY3
              go_wp2_with fail
              rw [← unhide HW9]
              exact bodyPost_ret (v := .tuple #[.agg #[.int .i64 0, .slice none 0 0, .slice none 0 0], .int .i64 2]) (by simp [results, Tryd.results13, go_sem, t0, t1, t2]) rfl (unhide FIN)
            | false =>
              cases r5 with
              | cons a l =>
                have hE2 : rdE s = 2 := (unhide HEE).trans (unhide HW1 (.inr (by simp))).1
                have NO := hide (fun (e : Ending) w' => readG_no (s := s) (w := w) (w' := w') (e := e) hE2 (by decide))
                obtain ⟨⟨z0, z1, z2⟩, z3, z4, z5⟩ := ((unhide hU5).zb).cells
                obtain ⟨W9, hW9⟩ : ∃ V, V = (((wc.setCell ⟨w.heap.size, 0, none⟩ (.int .i64 0)).setCell ⟨w.heap.size, 1, none⟩ (.slice none 0 0)).setCell ⟨w.heap.size, 2, none⟩ (.slice none 0 0)) := ⟨_, rfl⟩
                obtain ⟨⟨t0, t1, t2⟩, hb9⟩ := ((unhide hU5).zb).fill _ _ _ hW9
                have FIN := hide (unhide NO _ W9 rfl hb9)
                have HW9 := hide hW9
                clear NO hb9 hW9
                clear HEE HET HW1 HW2 hE2 hU5 hN5 hY3
                go_wp2_with fail
                rw [← unhide HW9]
                exact bodyPost_ret (v := .tuple #[.agg #[.int .i64 0, .slice none 0 0, .slice none 0 0], .int .i64 2]) (by simp [results, Tryd.results13, go_sem, t0, t1, t2]) rfl (unhide FIN)
              | nil =>
                obtain ⟨H3, H4⟩ := unhide HW2 rfl rfl
                have HH3 := hide H3
                have HH4 := hide H4
                have CG := hide (rgoodT_any ⟨z, ns, ss⟩ (.slice na ns.length nc) (.slice sa ss.length sc) wc (unhide hU5).n.seq (unhide hU5).s.seq ⟨unhide hY3, fun n hn => by have := unhide hN5 n hn; omega⟩ (unhide HZ).2 (fun n hn => by have := unhide hN5 n hn; omega) (by have := unhide HSL; simp only; omega))
                obtain ⟨c0, c1, c2⟩ := (unhide hU5).cells
                obtain ⟨hq9, _, _⟩ := (unhide hU5).lt
                have hqw := (unhide hU5).ql
                clear H3 H4 HW1 HW2 hN5 hY3 HSL HZ
                go_wp2_with fail
                refine (unhide CG).mono ?_
                rintro e we ⟨rfl, hbe⟩
                have Re := hide ((unhide hU5).next hbe)
                obtain ⟨e0, e1, e2⟩ := (unhide Re).cells
                clear CG hbe hU5 c0 c1 c2 o0 o1
                by_cases hg : goodT ⟨z, ns, ss⟩ = true
                · obtain ⟨k1, k2⟩ := unhide HH3 hg
                  have k3 := (unhide HEE).trans k1
                  have k4 := (unhide HET).trans k2
                  obtain ⟨⟨z0, z1, z2⟩, z3, z4, z5⟩ := (unhide Re).zb.cells
                  obtain ⟨W9, hW9⟩ : ∃ V, V = ((we.setCell ⟨w.heap.size, 0, none⟩ (.int .i64 z)).setCell ⟨w.heap.size, 1, none⟩ (.slice na ns.length nc)).setCell ⟨w.heap.size, 2, none⟩ (.slice sa ss.length sc) := ⟨_, rfl⟩
                  obtain ⟨⟨t0, t1, t2⟩, hb9⟩ := (unhide Re).zb.fill _ _ _ hW9
                  have nn : (Value.slice na ns.length nc).ownBlock ≠ some w.heap.size := fun e => by have := own_lt (unhide Re).n e; omega
                  have nm : (Value.slice sa ss.length sc).ownBlock ≠ some w.heap.size := fun e => by have := own_lt (unhide Re).s e; omega
                  have FIN : Hid (ReadG s w (.returned (.tuple #[.agg #[.int .i64 z, .slice na ns.length nc, .slice sa ss.length sc], .int .i64 0])) W9) := hide (by
                    refine ⟨.slice na ns.length nc, .slice sa ss.length sc, by rw [k3, k4], ?_, ?_, hb9⟩
                    · rw [k4, hW9]
                      exact (((((unhide Re).n.other nn _).other nn _).other nn _)).lower (by omega)
                    · rw [k4, hW9]
                      exact (((((unhide Re).s.other nm _).other nm _).other nm _)).lower (by omega))
                  have HW9 := hide hW9
                  have hqw2 : w.heap.size ≠ q := by omega
                  rw [hg]
                  clear k1 k2 k3 k4 hb9 hW9 HEE HET HH3 HH4 Re nn nm
                  go_wp2_with fail
                  rw [← unhide HW9]
                  exact bodyPost_ret (v := .tuple #[.agg #[.int .i64 z, .slice na ns.length nc, .slice sa ss.length sc], .int .i64 0]) (by simp [results, Tryd.results13, go_sem, t0, t1, t2]) rfl (unhide FIN)
                · have hg' : goodT ⟨z, ns, ss⟩ = false := by simpa using hg
                  have hE3 : rdE s = 3 := (unhide HEE).trans (unhide HH4 hg').1
                  have NO := hide (fun (e : Ending) w' => readG_no (s := s) (w := w) (w' := w') (e := e) hE3 (by decide))
                  obtain ⟨⟨z0, z1, z2⟩, z3, z4, z5⟩ := ((unhide Re).zb).cells
                  obtain ⟨W9, hW9⟩ : ∃ V, V = (((we.setCell ⟨w.heap.size, 0, none⟩ (.int .i64 0)).setCell ⟨w.heap.size, 1, none⟩ (.slice none 0 0)).setCell ⟨w.heap.size, 2, none⟩ (.slice none 0 0)) := ⟨_, rfl⟩
                  obtain ⟨⟨t0, t1, t2⟩, hb9⟩ := ((unhide Re).zb).fill _ _ _ hW9
                  have FIN := hide (unhide NO _ W9 rfl hb9)
                  have HW9 := hide hW9
                  clear NO hb9 hW9
                  rw [hg']
                  clear HEE HET HH3 HH4 Re hE3 hg hg'
                  go_wp2_with fail
                  rw [← unhide HW9]
                  exact bodyPost_ret (v := .tuple #[.agg #[.int .i64 0, .slice none 0 0, .slice none 0 0], .int .i64 3]) (by simp [results, Tryd.results13, go_sem, t0, t1, t2]) rfl (unhide FIN)
      · have hqb : (((un (s.drop n) : Nat) : Int) != ((sumN (s.take n) : Nat) : Int)) = true := by simpa using fun e => hq (by omega)
        have hE5 := unhide HE (by simpa using fun e => hq e.symm)
        have NO := hide (fun (e : Ending) w' => readG_no (s := s) (w := w) (w' := w') (e := e) hE5 (by decide))
        obtain ⟨⟨z0, z1, z2⟩, z3, z4, z5⟩ := (unhide Z4).cells
        obtain ⟨W9, hW9⟩ : ∃ V, V = (((w4.setCell ⟨w.heap.size, 0, none⟩ (.int .i64 0)).setCell ⟨w.heap.size, 1, none⟩ (.slice none 0 0)).setCell ⟨w.heap.size, 2, none⟩ (.slice none 0 0)) := ⟨_, rfl⟩
        obtain ⟨⟨t0, t1, t2⟩, hb9⟩ := (unhide Z4).fill _ _ _ hW9
        have FIN := hide (unhide NO _ W9 rfl hb9)
        have HW9 := hide hW9
        clear NO hb9 hW9
        clear HE HE2 hE5
        go_wp2_with fail
        rw [← unhide HW9]
        exact bodyPost_ret (v := .tuple #[.agg #[.int .i64 0, .slice none 0 0, .slice none 0 0], .int .i64 5]) (by simp [results, Tryd.results13, go_sem, t0, t1, t2]) rfl (unhide FIN)
    · have hE2 : rdE s = 2 := by rw [rdE, if_neg (by rw [hbeg]; decide)]
      have FIN := hide (readG_no (s := s) (w := w) hE2 (by decide) rfl (unhide Z0).b)
      clear hE2
      go_enter Tryd.func13, Tryd.ntmps13
      go_wp2_with fail
      exact bodyPost_ret (v := .tuple #[.agg #[.int .i64 0, .slice none 0 0, .slice none 0 0], .int .i64 2]) (by simp [results, Tryd.results13, go_sem]) rfl (unhide FIN)
  · have h5' : (s.length : Int) < 5 := by omega
    have hE2 : rdE s = 2 := by rw [rdE, if_neg]; simp [begB]; omega
    have FIN := hide (readG_no (s := s) (w := w) hE2 (by decide) rfl (unhide Z0).b)
    have hz : (ByteArray.mk s.toArray).size = s.length := Lib.size_eq ⟨s.toArray⟩
    clear hE2
    go_enter Tryd.func13, Tryd.ntmps13
    go_wp2_with fail
    exact bodyPost_ret (v := .tuple #[.agg #[.int .i64 0, .slice none 0 0, .slice none 0 0], .int .i64 2]) (by simp [results, Tryd.results13, go_sem]) rfl (unhide FIN)
end Go.Proofs.YtmifdieofccjaaaDoor
