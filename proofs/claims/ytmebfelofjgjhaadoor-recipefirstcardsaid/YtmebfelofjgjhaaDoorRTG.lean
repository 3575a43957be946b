/-
  What tree.counted and tree.Good answer: the walks, with the map of counts.
  What tree.Good answers, at every tree: the walks.
  The law RecipeFirst: the walk.
  A tree as an argument: opened into its nodes and sessions; what its weights say of their lengths.
-/
import Derived.Test.YtmebfelofjgjhaaDoorRTF
import Derived.Test.YtmebfelofjgjhaaDoorRTC
import Derived.Test.YtmebfelofjgjhaaDoorRTA
import Derived.Test.YtmebfelofjgjhaaDoorProg
import Derived.WalkKit
import Derived.Test.YtmebfelofjgjhaaDoorRTB
import Derived.Maps.OwnOps
import Derived.Maps.Views
import Derived.Test.YtmebfelofjgjhaaDoorRTE
import Derived.Test.YtmebfelofjgjhaaDoorRTD
import Derived.ProofKit
import Derived.OpenShut
import Derived.SizedLaws
import Derived.Deep.Slices
import Derived.Carry
namespace Go.Proofs.YtmebfelofjgjhaaDoor
open Go.RowKit Go.WideMaps Go.Maps

theorem mlaw : Keyed Tryd.prog 9 := string_keyed Tryd.underlying9
theorem mzero (w : World) : (zeroValue 3).run Tryd.prog w = .ok (.int .i64 0) w := by kernel_rfl

/-- block B is the map of how many of these nodes have each text as their parent -/
def Counts (w : World) (B k : Nat) (ns : List Nd) : Prop :=
  ∃ D : DataW Unit, w.ownsMap Tryd.prog 9 (plainElem Tryd.prog 3) B k D ∧ IsMap D ∧ ∀ s : List UInt8, D.atKey (.string s) (.lit (.int .i64 0)) = .lit (.int .i64 (kidsN ns s))
theorem kidsN_snoc (ns : List Nd) (n : Nd) (s : List UInt8) : kidsN (ns ++ [n]) s = kidsN ns s + (if dirOf n.p = s then 1 else 0) := by
  simp only [kidsN, List.countP_append, List.countP_cons, List.countP_nil, decide_eq_true_eq]; omega
theorem kidsN_le (ns : List Nd) (s : List UInt8) : kidsN ns s ≤ ns.length := List.countP_le_length
theorem counts_step {D : DataW Unit} {ns : List Nd} {n : Nd} (hm : IsMap D) (hD : ∀ s : List UInt8, D.atKey (.string s) (.lit (.int .i64 0)) = .lit (.int .i64 (kidsN ns s))) (s : List UInt8) :
    (D.put (.string (dirOf n.p)) (.lit (.int .i64 (kidsN ns (dirOf n.p) + 1)))).atKey (.string s) (.lit (.int .i64 0)) = .lit (.int .i64 (kidsN (ns ++ [n]) s)) := by
  rw [kidsN_snoc]
  by_cases e : dirOf n.p = s
  · subst e
    rw [atKey_put_same hm (show WideAt.IsKeyLit (.string _) from trivial)]
    simp
  · rw [atKey_put_other (by simpa using fun h => e h.symm), hD, if_neg e]
    simp

set_option maxRecDepth 100000 in
set_option maxHeartbeats 2000000 in
theorem counted_map (b off cap : Nat) (ns : List Nd) (w : World) (hl : ns.length ≤ 400) (hb : b < w.heap.size) (hr : RowAt w b off (cellsL ns)) :
    Calls Tryd.prog 16 #[.slice (some ⟨b, off, none⟩) ns.length cap] w fun e w' => e = .returned (.map (some w.heap.size)) ∧ Counts w' w.heap.size 400 ns ∧ Below w.heap.size w w' := by
  have H := hide hr
  clear hr
  have hmm := @run_makeMap Tryd.prog
  go_enter Tryd.func16, Tryd.ntmps16
  go_wp2_with fail
  go_loopg [12] ns.length (fun kx i wr => ∃ k : Nat, i = .int .i64 k ∧ k ≤ ns.length ∧ ns.length - k ≤ kx ∧ Hid (Counts wr w.heap.size k (ns.take k)) ∧ Hid (Below w.heap.size w wr))
  case atStart => exact ⟨0, rfl, Nat.zero_le _, Nat.le_refl _, hide ⟨_, World.ownsMap_made _ _ _ _, isMap_empty, fun s => by rfl⟩, hide (allocB _ _)⟩
  case round =>
    obtain ⟨k, rfl, hk, hg, hC, hB⟩ := hrel
    by_cases hlt : k < ns.length
    · obtain ⟨x, hx⟩ : ∃ x, ns[k]? = some x := ⟨_, List.getElem?_eq_getElem hlt⟩
      have q := (unhide H).kept (unhide hB) hb
      have d0 := q.n0 hx
      have d1 := q.n1 hx
      have d2 := q.n2 hx
      have d3 := q.n3 hx
      have d4 := q.n4 hx
      have d5 := q.n5 hx
      have d6 := q.n6 hx
      have d7 := q.n7 hx
      have d8 := q.n8 hx
      have hbw : b < wr.heap.size := Nat.lt_of_lt_of_le hb (unhide hB).size
      have hts : ns.take (k + 1) = ns.take k ++ [x] := by rw [List.take_add_one, hx]; rfl
      have HT := hide hts
      clear q hx hts
      have CS := fun W => split_any x.p W
      have hdl : (dirOf x.p).length ≤ 1000 := by
        cases hgb : goodB x.p with
        | false => rw [dirOf_bad hgb]; simp
        | true =>
          by_cases hr : x.p = [47]
          · rw [hr, dirOf_root]; simp
          · obtain ⟨a, c, he, hc⟩ := good_cut hgb
            have := goodB_le hgb
            rw [he] at hgb hr this ⊢
            rw [dirOf_cut hgb hr hc, nupL]
            split
            · simp
            · simp at this; omega
      have HDL := hide hdl
      clear hdl
      obtain ⟨D, ho, hm, hD⟩ := unhide hC
      have HD := hide hD
      have HM := hide hm
      have hc1 := kidsN_le (ns.take k) (dirOf x.p)
      simp only [List.length_take] at hc1
      have STEP := hide (fun s => counts_step (n := x) hm hD s)
      obtain ⟨cn, hcn⟩ : ∃ cn, kidsN (ns.take k) (dirOf x.p) = cn := ⟨_, rfl⟩
      rw [hcn] at hc1
      have HCN := hide hcn
      clear hD hm hcn
      generalize hdp : dirOf x.p = dp at CS HDL
      have HDP := hide hdp
      clear hdp
      generalize stepOf x.p = sp at CS
      generalize splE x.p = ep at CS
      go_wp2_with fail
      refine (CS _).mono ?_
      rintro e w1 ⟨rfl, hb1⟩
      have hB1 : Below w.heap.size w w1 := nnext (unhide hB) (nbox_then hb1)
      have ho1 : w1.ownsMap Tryd.prog 9 (plainElem Tryd.prog 3) w.heap.size k D := by
        have : Below wr.heap.size wr w1 := nbox_then hb1
        obtain ⟨es, cl, h1, h2⟩ := ho
        exact ⟨es, cl, (this.block _ (Array.getElem?_eq_some_iff.1 h1).1).trans h1, h2⟩
      have hkey : keyOf Tryd.prog 9 (.string ⟨dp.toArray⟩) = some (.string dp) := by
        have := keyOf_string_mk (P := Tryd.prog) Tryd.underlying9 (s := ⟨dp.toArray⟩) (by have := unhide HDL; simp only [maxLen, ByteArray.size, List.size_toArray]; omega)
        simpa using this
      obtain ⟨c, hrun, hat, _⟩ := ho1.lookup_int mlaw Tryd.underlying51 Tryd.underlying3 (mzero _) hkey
      have hcc : c = (cn : Int) := by
        rw [unhide HD, ← unhide HDP, unhide HCN] at hat
        simpa using hat.symm
      subst hcc
      clear CS hat hb1 ho d0 d1 d2 d3 d4 d5 d6 d7 d8
      go_wp2_with (first
        | (at_mapUpdate; refine wpList_mapUpdate_own _ rfl _ _ _ 51 rfl 9 3 mlaw Tryd.underlying51 _ w.heap.size k _ rfl ho1 (by unfold maxLen; omega) _ _ _ rfl rfl hkey _ [] (plainElem_int Tryd.underlying3 (WalkArith.wf_i64 (by omega))) ?_)
        | fail)
      intro w2 hown1 hgrow1
      have B2 := hB1.grown hgrow1 hB1.size (fun j hj => by cases hj; exact Nat.le_refl _)
      have C2 : Counts w2 w.heap.size (k + 1) (ns.take (k + 1)) := by
        refine ⟨_, hown1, (unhide HM).put _ _, fun s => ?_⟩
        rw [unhide HT, ← unhide STEP s, unhide HCN, unhide HDP]
      have HC2 := hide C2
      have HB2 := hide B2
      clear C2 B2 hown1 hgrow1 ho1 hrun hB1
      go_wp2_with fail
      go_roundg (ns.length - (k + 1))
      case measure => omega
      case rel => exact ⟨k + 1, rfl, by omega, Nat.le_refl _, HC2, HB2⟩
    · obtain rfl : k = ns.length := by omega
      go_wp2_with fail
      go_ret
      obtain ⟨D, ho, hm, hD⟩ := unhide hC
      exact ⟨rfl, ⟨D, ho.mono (by omega), hm, fun s => by rw [hD, List.take_length]⟩, unhide hB⟩

/-- numbers and texts as great as a machine has them -/
structure WfT (t : Tr) : Prop where
  ses : ∀ s ∈ t.ss, -9223372036854775808 ≤ s ∧ s ≤ 9223372036854775807
  slim : ∀ n ∈ t.ns, n.p.length ≤ 140737488355328 ∧ n.d.length ≤ 140737488355328
def OkG (t : Tr) (k : Nat) : Prop := ∀ i, i < k → ∀ n, t.ns[i]? = some n → PartP t.z t.ns t.ss n
theorem okg_succ {t : Tr} {k : Nat} (h : OkG t k) {n : Nd} (hn : t.ns[k]? = some n) (hp : PartP t.z t.ns t.ss n) : OkG t (k + 1) := by
  intro i hi m hm
  by_cases e : i = k
  · subst e; rw [hn] at hm; cases hm; exact hp
  · exact h i (by omega) m hm
theorem good_yes {t : Tr} (hz : zGood t.z = true) (ho : OrdN t.ns) (hs : SAsc t.ss) (h : OkG t t.ns.length) {r : Nd} (hr : t.ns[0]? = some r) : goodT t = decide (r.o = 0) := by
  by_cases h0 : r.o = 0
  · rw [decide_eq_true h0, goodT_true, good_parts]
    refine ⟨hz, ho, hs, fun n hn => ?_, fun r' h => by rw [hr] at h; cases h; exact h0⟩
    obtain ⟨i, hi, rfl⟩ := List.getElem_of_mem hn
    exact h i hi _ (List.getElem?_eq_getElem hi)
  · rw [decide_eq_false h0, goodT_false, good_parts]
    exact fun g => h0 (g.2.2.2.2 r hr)
theorem good_no {t : Tr} (h : ¬ (zGood t.z = true ∧ OrdN t.ns ∧ SAsc t.ss)) : goodT t = false := by
  rw [goodT_false, good_parts]; exact fun g => h ⟨g.1, g.2.1, g.2.2.1⟩
theorem good_node {t : Tr} {n : Nd} {k : Nat} (hn : t.ns[k]? = some n) (h : ¬ PartP t.z t.ns t.ss n) : goodT t = false := by
  rw [goodT_false, good_parts]; exact fun g => h (g.2.2.2.1 n (List.mem_of_getElem? hn))
theorem counts_kept {w w' : World} {B k : Nat} {ns : List Nd} (h : Counts w B k ns) (hb : Below w.heap.size w w') : Counts w' B k ns := by
  obtain ⟨D, ⟨es, cl, h1, h2⟩, h3⟩ := h
  exact ⟨D, ⟨es, cl, (hb.block _ (Array.getElem?_eq_some_iff.1 h1).1).trans h1, h2⟩, h3⟩

set_option maxRecDepth 100000 in
set_option maxHeartbeats 4000000 in
theorem tgood_main (t : Tr) (vn vs : Value) (w : World) (hn : SeqV w vn t.ns) (hs : SeqV w vs t.ss) (hw : WfT t) (hz : zGood t.z = true) (ho : OrdN t.ns) (ha : SAsc t.ss) :
    Calls Tryd.prog 4 #[.agg #[.int .i64 t.z, vn, vs]] w fun e w' => e = .returned (.bool (goodT t)) ∧ Below w.heap.size w w' := by
  have hne : t.ns ≠ [] := by obtain ⟨r, rest, h, _⟩ := ho.root; rw [h]; simp
  obtain ⟨r0, hr0⟩ : ∃ r0, t.ns[0]? = some r0 := by obtain ⟨r, rest, h, _⟩ := ho.root; exact ⟨r, by rw [h]; rfl⟩
  have YES := hide (fun h => good_yes hz ho ha h hr0)
  have NO := hide (fun n k h1 h2 => good_node (t := t) (n := n) (k := k) h1 h2)
  have CZ := fun W => zgood_any t.z W
  rw [hz] at CZ
  have CO := hide (fun W (h : Below w.heap.size w W) => ordered_any vn t.ns W (hn.next h))
  have CN := hide (fun W (h : Below w.heap.size w W) => numbered_any vs t.ss W (hs.next h) hw.ses)
  simp only [pd_true ho] at CO
  simp only [pd_true ha] at CN
  have CH := hide (fun p W (h : Below w.heap.size w W) => held_any vn t.ns p W (hn.next h) ho)
  have CSD := hide (fun n k W (h : Below w.heap.size w W) => sound_any t.z vn vs n k t.ss W (hs.next h) ha)
  have hl := ho.few
  have SL := hide hw.slim
  obtain ⟨sa, sc, rfl⟩ := seq_slice hs
  obtain ⟨b, off, cap, rfl, hb, hr, hle, hcm⟩ := seq_row hn hne
  have H := hide hr
  have CC := hide (fun W (h : Below w.heap.size w W) => counted_map b off cap t.ns W hl (Nat.lt_of_lt_of_le hb h.size) (hr.kept h hb))
  have HR0 := hide hr0
  have hpos : 0 < t.ns.length := List.length_pos_iff.2 hne
  clear hn hs hw hz ho ha hne hr hr0
  generalize goodT t = fin at YES NO ⊢
  go_enter Tryd.func4, Tryd.ntmps4
  go_wp2_with fail
  refine (CZ _).mono ?_
  rintro e w0 ⟨rfl, rfl⟩
  have B0 := allocB w (.cells #[.int .i64 t.z, .slice (some ⟨b, off, none⟩) t.ns.length cap, .slice sa t.ss.length sc] 25)
  generalize hW0 : w.alloc (.cells #[.int .i64 t.z, .slice (some ⟨b, off, none⟩) t.ns.length cap, .slice sa t.ss.length sc] 25) = W0 at *
  have b0 : W0.cell? ⟨w.heap.size, 0, none⟩ = some (.int .i64 t.z) := by rw [← hW0]; simp
  have b1 : W0.cell? ⟨w.heap.size, 1, none⟩ = some (.slice (some ⟨b, off, none⟩) t.ns.length cap) := by rw [← hW0]; simp
  have b2 : W0.cell? ⟨w.heap.size, 2, none⟩ = some (.slice sa t.ss.length sc) := by rw [← hW0]; simp
  have hsz : w.heap.size < W0.heap.size := by rw [← hW0]; simp
  have BX := hide (fun W (h : Below W0.heap.size W0 W) => (⟨(h.cell (p := ⟨w.heap.size, 0, none⟩) hsz).trans b0, (h.cell (p := ⟨w.heap.size, 1, none⟩) hsz).trans b1, (h.cell (p := ⟨w.heap.size, 2, none⟩) hsz).trans b2⟩ : W.cell? ⟨w.heap.size, 0, none⟩ = some (.int .i64 t.z) ∧ W.cell? ⟨w.heap.size, 1, none⟩ = some (.slice (some ⟨b, off, none⟩) t.ns.length cap) ∧ W.cell? ⟨w.heap.size, 2, none⟩ = some (.slice sa t.ss.length sc)))
  clear hW0
  go_wp2_with fail
  refine (unhide CO _ B0).mono ?_
  rintro e w1 ⟨rfl, hb1⟩
  obtain ⟨c0, c1, c2⟩ := unhide BX w1 hb1
  clear b0 b1 b2
  go_wp2_with fail
  refine (unhide CN _ (nnext B0 hb1)).mono ?_
  rintro e w2 ⟨rfl, rfl⟩
  go_wp2_with fail
  refine (unhide CC _ (nnext B0 hb1)).mono ?_
  rintro e w3 ⟨rfl, hC3, hb3⟩
  have hb3' := nnext hb1 hb3
  obtain ⟨d0, d1, d2⟩ := unhide BX w3 hb3'
  have HC := hide hC3
  clear c0 c1 c2 CO CN CC CZ hC3
  go_wp2_with fail
  go_loopg [28] t.ns.length (fun kx i wr => ∃ k : Nat, i = .int .i64 k ∧ k ≤ t.ns.length ∧ t.ns.length - k ≤ kx ∧ Hid (Below W0.heap.size W0 wr) ∧ Hid (Counts wr w2.heap.size 400 t.ns) ∧ Hid (OkG t k))
  case atStart => exact ⟨0, rfl, Nat.zero_le _, Nat.le_refl _, hide hb3', HC, hide (fun i hi => absurd hi (Nat.not_lt_zero _))⟩
  case round =>
    obtain ⟨k, rfl, hk, hg, hB, hC, hO⟩ := hrel
    obtain ⟨x0, x1, x2⟩ := unhide BX wr (unhide hB)
    clear d0 d1 d2
    by_cases hlt : k < t.ns.length
    · obtain ⟨x, hx⟩ : ∃ x, t.ns[k]? = some x := ⟨_, List.getElem?_eq_getElem hlt⟩
      have hBw : Below w.heap.size w wr := nnext B0 (unhide hB)
      have q := (unhide H).kept hBw hb
      have d0 := q.n0 hx
      have d1 := q.n1 hx
      have d2 := q.n2 hx
      have d3 := q.n3 hx
      have d4 := q.n4 hx
      have d5 := q.n5 hx
      have d6 := q.n6 hx
      have d7 := q.n7 hx
      have d8 := q.n8 hx
      have hbw : b < wr.heap.size := Nat.lt_of_lt_of_le hb hBw.size
      have hww : w.heap.size < wr.heap.size := Nat.lt_of_lt_of_le hsz (unhide hB).size
      have sl := unhide SL x (List.mem_of_getElem? hx)
      have sld := sl.2
      have HX := hide hx
      have SLP := hide sl.1
      clear q hx sl
      by_cases hd : x.d.length ≤ 256
      · have HD := hide hd
        cases hh : pd (HeldP t.ns x.p) with
        | false =>
          have G := hide (unhide NO x k (unhide HX) (fun p => by have := pd_true p.held; rw [hh] at this; cases this))
          go_wp2_with fail
          refine (unhide CH x.p _ (nnext hBw (allocB _ _))).mono ?_
          rintro e w4 ⟨rfl, hb4⟩
          have hB4 := nnext hBw (nbox_then hb4)
          rw [hh]
          clear hb4 d0 d1 d2 d3 d4 d5 d6 d7 d8 x0 x1 x2
          go_wp2_with fail
          go_ret
          exact ⟨nret_bool (unhide G).symm, hB4⟩
        | true =>
          have HH := hide hh
          go_wp2_with fail
          refine (unhide CH x.p _ (nnext hBw (allocB _ _))).mono ?_
          rintro e w4 ⟨rfl, hb4⟩
          have hB4 := nnext hBw (nbox_then hb4)
          have hB40 := nnext (unhide hB) (nbox_then hb4)
          rw [hh]
          clear hh
          have r := fun (j : Nat) (hj : j < 9) => hb4.cell (p := ⟨wr.heap.size, j, none⟩) (by simp)
          have y0 : w4.cell? ⟨wr.heap.size, 0, none⟩ = some (.string ⟨x.p.toArray⟩) := by rw [r 0 (by omega)]; simp
          have y2 : w4.cell? ⟨wr.heap.size, 2, none⟩ = some (.int .i64 x.c) := by rw [r 2 (by omega)]; simp
          have y3 : w4.cell? ⟨wr.heap.size, 3, none⟩ = some (.int .i64 x.m) := by rw [r 3 (by omega)]; simp
          have y4 : w4.cell? ⟨wr.heap.size, 4, none⟩ = some (.int .i64 x.q) := by rw [r 4 (by omega)]; simp
          have y5 : w4.cell? ⟨wr.heap.size, 5, none⟩ = some (.int .i64 x.v) := by rw [r 5 (by omega)]; simp
          have y6 : w4.cell? ⟨wr.heap.size, 6, none⟩ = some (.int .i64 x.k) := by rw [r 6 (by omega)]; simp
          have y7 : w4.cell? ⟨wr.heap.size, 7, none⟩ = some (.int .i64 x.o) := by rw [r 7 (by omega)]; simp
          have y8 : w4.cell? ⟨wr.heap.size, 8, none⟩ = some (.int .i64 x.n) := by rw [r 8 (by omega)]; simp
          obtain ⟨z0, z1, z2⟩ := unhide BX w4 hB40
          have hC4 := counts_kept (unhide hC) (nbox_then hb4)
          have HC4 := hide hC4
          obtain ⟨D, ho4, _, hD⟩ := hC4
          have hkey : keyOf Tryd.prog 9 (.string ⟨x.p.toArray⟩) = some (.string x.p) := by
            have := keyOf_string_mk (P := Tryd.prog) Tryd.underlying9 (s := ⟨x.p.toArray⟩) (by have := unhide SLP; simp only [maxLen, ByteArray.size, List.size_toArray]; omega)
            simpa using this
          obtain ⟨c, hrun, hat, _⟩ := ho4.lookup_int mlaw Tryd.underlying51 Tryd.underlying3 (mzero _) hkey
          have hcc : c = (kidsN t.ns x.p : Int) := by
            rw [hD] at hat
            simpa using hat.symm
          subst hcc
          clear r hat hD ho4 hkey hb4 d0 d1 d2 d3 d4 d5 d6 d7 d8 x0 x1 x2
          have CSX := unhide CSD x (kidsN t.ns x.p) w4 hB4
          unfold statV at CSX
          cases hs : pd (SoundP t.z x (kidsN t.ns x.p) t.ss) with
          | false =>
            have G := hide (unhide NO x k (unhide HX) (fun p => by have := pd_true p.sound; rw [hs] at this; cases this))
            rw [hs] at CSX
            clear hs
            go_wp2_with fail
            refine CSX.mono ?_
            rintro e w5 ⟨rfl, hb5⟩
            have hB5 := nnext hB4 hb5
            clear CSX hrun z0 z1 z2 y0 y2 y3 y4 y5 y6 y7 y8
            go_wp2_with fail
            go_ret
            exact ⟨nret_bool (unhide G).symm, hB5⟩
          | true =>
            have O2 := hide (okg_succ (unhide hO) (unhide HX) ⟨unhide HD, pd_iff.1 (unhide HH), pd_iff.1 hs⟩)
            rw [hs] at CSX
            clear hs
            go_wp2_with fail
            refine CSX.mono ?_
            rintro e w5 ⟨rfl, hb5⟩
            have HB5 := hide (nnext hB40 hb5)
            have HC5 := hide (counts_kept (unhide HC4) hb5)
            clear CSX hrun z0 z1 z2 y0 y2 y3 y4 y5 y6 y7 y8 hb5
            go_wp2_with fail
            go_roundg (t.ns.length - (k + 1))
            case measure => omega
            case rel => exact ⟨k + 1, rfl, by omega, Nat.le_refl _, HB5, HC5, O2⟩
      · have G := hide (unhide NO x k (unhide HX) (fun p => hd p.data))
        go_wp2_with fail
        go_ret
        exact ⟨nret_bool (unhide G).symm, nnext hBw (allocB _ _)⟩
    · obtain rfl : k = t.ns.length := by omega
      have hBw : Below w.heap.size w wr := nnext B0 (unhide hB)
      have d7 := ((unhide H).kept hBw hb).n7 (unhide HR0)
      have G := hide (unhide YES (unhide hO))
      simp only [Nat.zero_mul, Nat.add_zero] at d7
      go_wp2_with fail
      go_ret
      exact ⟨nret_bool ((unhide G).trans (by rfl)).symm, hBw⟩

end Go.Proofs.YtmebfelofjgjhaaDoor

namespace Go.Proofs.YtmebfelofjgjhaaDoor
open Go.RowKit

set_option maxRecDepth 20000 in
set_option maxHeartbeats 2000000 in
theorem tgood_any (t : Tr) (vn vs : Value) (w : World) (hn : SeqV w vn t.ns) (hs : SeqV w vs t.ss) (hw : WfT t) :
    Calls Tryd.prog 4 #[.agg #[.int .i64 t.z, vn, vs]] w fun e w' => e = .returned (.bool (goodT t)) ∧ Below w.heap.size w w' := by
  by_cases hz : zGood t.z = true
  · by_cases ho : OrdN t.ns
    · by_cases ha : SAsc t.ss
      · exact tgood_main t vn vs w hn hs hw hz ho ha
      · have F := hide (good_no (t := t) (fun h => ha h.2.2)).symm
        have CZ := fun W => zgood_any t.z W
        rw [hz] at CZ
        have CO := hide (fun W (h : Below w.heap.size w W) => ordered_any vn t.ns W (hn.next h))
        have CN := hide (fun W (h : Below w.heap.size w W) => numbered_any vs t.ss W (hs.next h) hw.ses)
        simp only [pd_true ho] at CO
        simp only [pd_false ha] at CN
        obtain ⟨na, nc, rfl⟩ := seq_slice hn
        obtain ⟨sa, sc, rfl⟩ := seq_slice hs
        clear hn hs hw hz ho ha
        go_enter Tryd.func4, Tryd.ntmps4
        go_wp2_with fail
        refine (CZ _).mono ?_
        rintro e w0 ⟨rfl, rfl⟩
        go_wp2_with fail
        refine (unhide CO _ (allocB _ _)).mono ?_
        rintro e w1 ⟨rfl, hb1⟩
        have c2 : w1.cell? ⟨w.heap.size, 2, none⟩ = some (.slice sa t.ss.length sc) := by rw [hb1.cell (p := ⟨w.heap.size, 2, none⟩) (by simp)]; simp
        have HB := hide (nbox_then hb1)
        clear hb1
        go_wp2_with fail
        refine (unhide CN _ (unhide HB)).mono ?_
        rintro e w2 ⟨rfl, rfl⟩
        go_wp2_with fail
        go_ret
        exact ⟨nret_bool (unhide F), unhide HB⟩
    · have F := hide (good_no (t := t) (fun h => ho h.2.1)).symm
      have CZ := fun W => zgood_any t.z W
      rw [hz] at CZ
      have CO := hide (fun W (h : Below w.heap.size w W) => ordered_any vn t.ns W (hn.next h))
      simp only [pd_false ho] at CO
      obtain ⟨na, nc, rfl⟩ := seq_slice hn
      obtain ⟨sa, sc, rfl⟩ := seq_slice hs
      clear hn hs hw hz ho
      go_enter Tryd.func4, Tryd.ntmps4
      go_wp2_with fail
      refine (CZ _).mono ?_
      rintro e w0 ⟨rfl, rfl⟩
      go_wp2_with fail
      refine (unhide CO _ (allocB _ _)).mono ?_
      rintro e w1 ⟨rfl, hb1⟩
      have HB := hide (nbox_then hb1)
      clear hb1
      go_wp2_with fail
      go_ret
      exact ⟨nret_bool (unhide F), unhide HB⟩
  · have F := hide (good_no (t := t) (fun h => hz h.1)).symm
    have hz' : zGood t.z = false := by simpa using hz
    have CZ := fun W => zgood_any t.z W
    rw [hz'] at CZ
    obtain ⟨na, nc, rfl⟩ := seq_slice hn
    obtain ⟨sa, sc, rfl⟩ := seq_slice hs
    clear hn hs hw hz hz'
    go_enter Tryd.func4, Tryd.ntmps4
    go_wp2_with fail
    refine (CZ _).mono ?_
    rintro e w0 ⟨rfl, rfl⟩
    go_wp2_with fail
    go_ret
    exact ⟨nret_bool (unhide F), allocB _ _⟩

end Go.Proofs.YtmebfelofjgjhaaDoor

namespace Go.Proofs.YtmebfelofjgjhaaDoor
open Go.RowKit

/-- a tree's box -/
structure TQ (w W : World) (z : Int) (vn vs : Value) : Prop where
  t : W.heap[w.heap.size]? = some (.cells #[.int .i64 z, vn, vs] 25 (0, 0))
  b : Below w.heap.size w W
theorem TQ.new (w : World) (z : Int) (vn vs : Value) : TQ w (w.alloc (.cells #[.int .i64 z, vn, vs] 25)) z vn vs := ⟨heap_alloc_new w _, allocB _ _⟩
theorem TQ.lt {w W : World} {z : Int} {vn vs : Value} (h : TQ w W z vn vs) : w.heap.size < W.heap.size := (Array.getElem?_eq_some_iff.1 h.t).1
theorem TQ.next {w W V : World} {z : Int} {vn vs : Value} (h : TQ w W z vn vs) (hb : Below W.heap.size W V) : TQ w V z vn vs := ⟨(hb.block _ h.lt).trans h.t, nnext h.b hb⟩
theorem TQ.cells {w W : World} {z : Int} {vn vs : Value} (h : TQ w W z vn vs) : W.cell? ⟨w.heap.size, 0, none⟩ = some (.int .i64 z) ∧ W.cell? ⟨w.heap.size, 1, none⟩ = some vn ∧ W.cell? ⟨w.heap.size, 2, none⟩ = some vs := by
  have h1 := h.t
  refine ⟨?_, ?_, ?_⟩ <;> simp [World.cell?, h1]

set_option maxRecDepth 20000 in
set_option maxHeartbeats 4000000 in
theorem recipeFirst_no (t : Tr) (vn vs : Value) (d m : List UInt8) (w : World) (hn : SeqV w vn t.ns) (hs : SeqV w vs t.ss) (hw : WfT t) (hg : goodT t = false) :
    Calls Tryd.prog 3 #[.agg #[.int .i64 t.z, vn, vs], .string ⟨d.toArray⟩, .string ⟨m.toArray⟩] w fun e w' => e = .returned (.bool true) ∧ Below w.heap.size w w' := by
  have CG := hide (fun W (hW : Below w.heap.size w W) => tgood_any t vn vs W (hn.next hW) (hs.next hW) hw)
  rw [hg] at CG
  obtain ⟨na, nc, rfl⟩ := seq_slice hn
  obtain ⟨sa, sc, rfl⟩ := seq_slice hs
  clear hn hs hw hg
  go_enter Tryd.func3, Tryd.ntmps3
  go_wp2_with fail
  refine (unhide CG _ (allocB _ _)).mono ?_
  rintro e w1 ⟨rfl, hb1⟩
  have HB := hide (nbox_then hb1)
  clear hb1
  go_wp2_with fail
  refine (fences_true _).mono ?_
  rintro e w2 ⟨rfl, rfl⟩
  go_wp2_with fail
  go_ret
  exact ⟨rfl, unhide HB⟩

set_option maxRecDepth 20000 in
set_option maxHeartbeats 4000000 in
theorem recipeFirst_nil (t : Tr) (vn vs : Value) (d m : List UInt8) (w : World) (hn : SeqV w vn t.ns) (hs : SeqV w vs t.ss) (hw : WfT t) (hml : m.length ≤ 140737488355328) (hl : t.ns.length * 88 ≤ 140737488351232) (hls : t.ss.length * 8 ≤ 140737488351232) (hg : goodT t = true) (hL : linL t.ns d m = []) :
    Calls Tryd.prog 3 #[.agg #[.int .i64 t.z, vn, vs], .string ⟨d.toArray⟩, .string ⟨m.toArray⟩] w fun e w' => e = .returned (.bool true) ∧ Below w.heap.size w w' := by
  have g := goodT_true.1 hg
  have CG := hide (fun W (hW : Below w.heap.size w W) => tgood_any t vn vs W (hn.next hW) (hs.next hW) hw)
  rw [hg] at CG
  have CO := hide (fun W (hW : Below w.heap.size w W) => own_any t vn vs W (hn.next hW) (hs.next hW) (by omega) (by omega))
  unfold GivesT at CO
  have P1 := hide (fun W vn' vs' (h1 : SeqV W vn' t.ns) => line_any t.z vn' vs' t.ns d m W h1 g.nod.asc g.nod.few hml)
  have P2 := hide (fun W vn' vs' (h1 : SeqV W vn' t.ns) => holder_any t vn' vs' d m W h1 g hml)
  rw [(hol_nil hL).1, (hol_nil hL).2] at P2
  rw [hL] at P1
  obtain ⟨E, hE⟩ : ∃ E, linE t.ns d m = E := ⟨_, rfl⟩
  rw [hE] at P1 P2
  have T0 := hide (TQ.new w t.z vn vs)
  obtain ⟨na, nc, rfl⟩ := seq_slice hn
  obtain ⟨sa, sc, rfl⟩ := seq_slice hs
  clear hn hs hw hg g hL hE
  go_enter Tryd.func3, Tryd.ntmps3
  go_wp2_with fail
  refine (unhide CG _ (unhide T0).b).mono ?_
  rintro e w1 ⟨rfl, hb1⟩
  have T1 := hide ((unhide T0).next hb1)
  obtain ⟨c0, c1, c2⟩ := (unhide T1).cells
  clear hb1
  go_wp2_with fail
  refine (fences_true _).mono ?_
  rintro e w1' ⟨rfl, rfl⟩
  go_wp2_with fail
  refine (unhide CO _ (unhide T1).b).mono ?_
  rintro e w2 ⟨vn2, vs2, rfl, hn2, hs2, hb2⟩
  have T2 := hide ((unhide T1).next hb2)
  have C3 := unhide P1 w2 vn2 vs2 hn2.seq
  obtain ⟨na2, nc2, rfl, _⟩ := hn2.slice
  obtain ⟨sa2, sc2, rfl, _⟩ := hs2.slice
  clear hb2 hn2 hs2 c0 c1 c2
  go_wp2_with fail
  refine C3.mono ?_
  rintro e w3 ⟨v3, rfl, hk3, hb3⟩
  have T3 := hide ((unhide T2).next hb3)
  obtain ⟨c0, c1, c2⟩ := (unhide T3).cells
  obtain ⟨ka3, kc3, rfl, _⟩ := hk3.slice
  clear hb3 C3 hk3
  go_wp2_with fail
  refine (unhide CO _ (unhide T3).b).mono ?_
  rintro e w5 ⟨vn5, vs5, rfl, hn5, hs5, hb5⟩
  have T5 := hide ((unhide T3).next hb5)
  have C6 := unhide P2 w5 vn5 vs5 hn5.seq
  obtain ⟨na5, nc5, rfl, _⟩ := hn5.slice
  obtain ⟨sa5, sc5, rfl, _⟩ := hs5.slice
  clear hb5 hn5 hs5 c0 c1 c2
  go_wp2_with fail
  refine C6.mono ?_
  rintro e w6 ⟨rfl, hb6⟩
  have T6 := hide ((unhide T5).next hb6)
  clear hb6 C6
  by_cases hE0 : E = 0
  · subst hE0
    go_wp2_with fail
    go_ret
    exact ⟨by rfl, (unhide T6).b⟩
  · have h1 : (E == 0) = false := by simpa using hE0
    have h2 : (E != 0) = true := by simpa using hE0
    clear hE0
    go_wp2_with fail
    go_ret
    exact ⟨by rfl, (unhide T6).b⟩
set_option maxRecDepth 20000 in
set_option maxHeartbeats 8000000 in
theorem recipeFirst_some (t : Tr) (vn vs : Value) (d m x0 : List UInt8) (r : List (List UInt8)) (w : World) (hn : SeqV w vn t.ns) (hs : SeqV w vs t.ss) (hw : WfT t) (hml : m.length ≤ 140737488355328) (hl : t.ns.length * 88 ≤ 140737488351232) (hls : t.ss.length * 8 ≤ 140737488351232) (hg : goodT t = true) (hL : linL t.ns d m = x0 :: r) :
    Calls Tryd.prog 3 #[.agg #[.int .i64 t.z, vn, vs], .string ⟨d.toArray⟩, .string ⟨m.toArray⟩] w fun e w' => e = .returned (.bool true) ∧ Below w.heap.size w w' := by
  have g := goodT_true.1 hg
  have CG := hide (fun W (hW : Below w.heap.size w W) => tgood_any t vn vs W (hn.next hW) (hs.next hW) hw)
  rw [hg] at CG
  have CO := hide (fun W (hW : Below w.heap.size w W) => own_any t vn vs W (hn.next hW) (hs.next hW) (by omega) (by omega))
  unfold GivesT at CO
  have hxm : x0 ∈ linL t.ns d m := by rw [hL]; simp
  obtain ⟨hE, hdl, hxl, _, n, hm, hp, hlk, _, _⟩ := lin_node g.nod hxm
  have hJ := lin_join g.nod hxm
  have P1 := hide (fun W vn' vs' (h1 : SeqV W vn' t.ns) => line_any t.z vn' vs' t.ns d m W h1 g.nod.asc g.nod.few hml)
  have P2 := hide (fun W vn' vs' (h1 : SeqV W vn' t.ns) => holder_any t vn' vs' d m W h1 g hml)
  have P3 := hide (fun s W vn' vs' (h1 : SeqV W vn' t.ns) => before_any t.z vn' vs' t.ns d m s W h1 g.nod.asc g.nod.few hml)
  have P4 := hide (fun W vn' vs' (h1 : SeqV W vn' t.ns) => ready_any t.z vn' vs' t.ns d (min ((linL t.ns d m).length : Int) 64) W h1 g.nod.asc g.nod.few)
  rw [(rdy_line hE).1, (rdy_line hE).2] at P4
  rw [(hol_some hL hlk).1, (hol_some hL hlk).2, hE] at P2
  rw [hE] at P1
  have CJ := hide (fun W => join_any d x0 W (by omega))
  rw [hJ.1, hJ.2] at CJ
  obtain ⟨A, B, T⟩ := there_of_look g.nod.asc hlk
  have k := g.nod.ok n hm
  have CN := hide (fun W (hW : Below w.heap.size w W) => tget_there t.z vn vs t.ns A B n (belL d x0) W (hn.next hW) (by have := g.nod.few; omega) T (by have := goodB_le k.path; omega) (by have := k.data; omega))
  unfold nodeV at CN
  generalize belL d x0 = P at CJ CN
  have hkl := lin_few t.ns d m g.nod.few
  have HX0 : Hid ((linL t.ns d m)[0]? = some x0) := hide (by rw [hL]; rfl)
  have hlen : 0 < (linL t.ns d m).length := by rw [hL]; simp
  have HRI := hide (lin_rise g.nod d m)
  obtain ⟨L, hLL⟩ : ∃ L, linL t.ns d m = L := ⟨_, rfl⟩
  rw [hLL] at P1 P3 P4 hkl HX0 hlen HRI
  have HB0 := hide (fun x (hx : L[0]? = some x) => bef_head hx)
  have HBN := hide (fun i x y (hx : L[i + 1]? = some x) (hy : L[i]? = some y) => bef_next (unhide HRI) hx hy)
  have HLT := hide (fun i x y (hx : L[i + 1]? = some x) (hy : L[i]? = some y) => rise_lt (unhide HRI) hy hx (by omega))
  have T0 := hide (TQ.new w t.z vn vs)
  obtain ⟨na, nc, rfl⟩ := seq_slice hn
  obtain ⟨sa, sc, rfl⟩ := seq_slice hs
  clear hn hs hw hg g hL hE hdl hxl hm hp hlk hJ T k hLL hxm
  go_enter Tryd.func3, Tryd.ntmps3
  go_wp2_with fail
  refine (unhide CG _ (unhide T0).b).mono ?_
  rintro e w1 ⟨rfl, hb1⟩
  have T1 := hide ((unhide T0).next hb1)
  obtain ⟨c0, c1, c2⟩ := (unhide T1).cells
  clear hb1
  go_wp2_with fail
  refine (fences_true _).mono ?_
  rintro e w1' ⟨rfl, rfl⟩
  go_wp2_with fail
  refine (unhide CO _ (unhide T1).b).mono ?_
  rintro e w2 ⟨vn2, vs2, rfl, hn2, hs2, hb2⟩
  have T2 := hide ((unhide T1).next hb2)
  have C3 := unhide P1 w2 vn2 vs2 hn2.seq
  obtain ⟨na2, nc2, rfl, _⟩ := hn2.slice
  obtain ⟨sa2, sc2, rfl, _⟩ := hs2.slice
  clear hb2 hn2 hs2 c0 c1 c2
  go_wp2_with fail
  refine C3.mono ?_
  rintro e w3 ⟨v3, rfl, hk3, hb3⟩
  have T3 := hide ((unhide T2).next hb3)
  obtain ⟨c0, c1, c2⟩ := (unhide T3).cells
  have HK3 := hide (srow hk3.seq)
  obtain ⟨ka3, kc3, rfl, _⟩ := hk3.slice
  clear hb3 C3 hk3
  go_wp2_with fail
  refine (unhide CO _ (unhide T3).b).mono ?_
  rintro e w5 ⟨vn5, vs5, rfl, hn5, hs5, hb5⟩
  have T5 := hide ((unhide T3).next hb5)
  have D5 := hide hb5
  have C6 := unhide P2 w5 vn5 vs5 hn5.seq
  obtain ⟨na5, nc5, rfl, _⟩ := hn5.slice
  obtain ⟨sa5, sc5, rfl, _⟩ := hs5.slice
  clear hb5 hn5 hs5 c0 c1 c2
  go_wp2_with fail
  refine C6.mono ?_
  rintro e w6 ⟨rfl, hb6⟩
  have T6 := hide ((unhide T5).next hb6)
  have D6 := hide (nnext (unhide D5) hb6)
  obtain ⟨b, off, cap, he, hb, q⟩ := unhide HK3 w6 (unhide D6) 0 x0 (unhide HX0)
  simp only [Value.slice.injEq] at he
  obtain ⟨rfl, _, rfl⟩ := he
  have d0 : w6.cell? ⟨b, off, none⟩ = some (.string ⟨x0.toArray⟩) := q.s0 (unhide HX0)
  have hli : (0 : Int) < (L.length : Int) := by omega
  have hl0 : ((L.length : Int) == 0) = false := beq_eq_false_iff_ne.2 (by omega)
  clear hb6 C6 q
  go_wp2_with fail
  refine (unhide CJ _).mono ?_
  rintro e w7 ⟨rfl, hb7⟩
  have T7 := hide ((unhide T6).next hb7)
  have D7 := hide (nnext (unhide D6) hb7)
  obtain ⟨c0, c1, c2⟩ := (unhide T7).cells
  clear hb7 d0
  go_wp2_with fail
  refine (unhide CN _ (unhide T7).b).mono ?_
  rintro e w8 ⟨rfl, hb8⟩
  have T8 := hide (((unhide T7).next hb8).next (allocB w8 (.cells #[.string ⟨n.p.toArray⟩, .string ⟨n.d.toArray⟩, .int .i64 n.c, .int .i64 n.m, .int .i64 n.q, .int .i64 n.v, .int .i64 n.k, .int .i64 n.o, .int .i64 n.n] 40)))
  have D8 := hide (nnext (nnext (unhide D7) hb8) (allocB w8 (.cells #[.string ⟨n.p.toArray⟩, .string ⟨n.d.toArray⟩, .int .i64 n.c, .int .i64 n.m, .int .i64 n.q, .int .i64 n.v, .int .i64 n.k, .int .i64 n.o, .int .i64 n.n] 40)))
  have A3 := one_newN w8 n
  have k7 := A3.cellN 7 _ rfl
  have k2 := A3.cellN 2 _ rfl
  clear A3 hb8 c0 c1 c2
  go_wp2_with fail
  generalize hW8 : w8.alloc (.cells #[.string ⟨n.p.toArray⟩, .string ⟨n.d.toArray⟩, .int .i64 n.c, .int .i64 n.m, .int .i64 n.q, .int .i64 n.v, .int .i64 n.k, .int .i64 n.o, .int .i64 n.n] 40) = W8 at T8 D8 k7 k2 ⊢
  clear hW8 CJ CN CG P1 P2
  go_loopg [16] L.length (fun kx s16 wr => ∃ k : Nat, s16 = .int .i64 k ∧ k ≤ L.length ∧ L.length - k ≤ kx ∧ Hid (Below W8.heap.size W8 wr))
  case atStart => exact ⟨0, rfl, Nat.zero_le _, Nat.le_refl _, hide (Below.refl _ _)⟩
  case round =>
    obtain ⟨k, rfl, hk, hgk, hB⟩ := hrel
    have T9 := hide ((unhide T8).next (unhide hB))
    obtain ⟨c0, c1, c2⟩ := (unhide T9).cells
    have CO1 := hide (fun W (hW : Below wr.heap.size wr W) => unhide CO W (nnext (unhide T9).b hW))
    by_cases hlt : k < L.length
    · obtain ⟨x, hx⟩ : ∃ x, L[k]? = some x := ⟨_, List.getElem?_eq_getElem hlt⟩
      have KD : Hid (∀ V, Below wr.heap.size wr V → V.cell? ⟨b, off + k, none⟩ = some (.string ⟨x.toArray⟩)) := hide (fun V hV => by
        obtain ⟨b', off', cap', he', _, q⟩ := unhide HK3 V (nnext (nnext (unhide D8) (unhide hB)) hV) k x hx
        simp only [Value.slice.injEq, Option.some.injEq, Addr.mk.injEq, and_true, true_and] at he'
        obtain ⟨⟨rfl, rfl⟩, _⟩ := he'
        exact q.s0 hx)
      have d0 := unhide KD wr (Below.refl _ _)
      have hkk : (k : Int) < (L.length : Int) := by omega
      have P5 := hide (fun W vn' vs' h => unhide P3 x W vn' vs' h)
      cases k with
      | zero =>
        have KD : Hid (∀ V, Below wr.heap.size wr V → V.cell? ⟨b, off, none⟩ = some (.string ⟨x.toArray⟩)) := KD
        have d0 : wr.cell? ⟨b, off, none⟩ = some (.string ⟨x.toArray⟩) := d0
        have hbf := unhide HB0 x hx
        unfold befS befB at P5
        rw [hbf] at P5
        simp only [Option.getD_none, Option.isSome_none] at P5
        clear hbf hx
        go_upto_region 14 with fail
        go_cut [17, 18] from 104 to 146 (fun t17 t18 wx => t17 = .string ⟨#[]⟩ ∧ t18 = .bool false ∧ Hid (Below wr.heap.size wr wx))
        case first =>
          go_region_law (first
            | (go_simp; refine (unhide CO1 _ (by first | with_reducible exact Below.refl _ _ | with_reducible exact (Below.refl _ _).drew)).mono ?_; rintro e aw1 ⟨avn1, avs1, rfl, on1, os1, hb1⟩; have aB1 : Hid (Below wr.heap.size wr aw1) := hide (nnext (by first | with_reducible exact Below.refl _ _ | with_reducible exact (Below.refl _ _).drew) hb1); have aN1 := hide on1.seq; obtain ⟨ana, anc, rfl, _⟩ := on1.slice; obtain ⟨asa, asc, rfl, _⟩ := os1.slice; have ad1 := unhide KD aw1 (unhide aB1); clear on1 os1 hb1)
            | (go_simp; refine (unhide P5 _ _ _ (by first | with_reducible exact unhide aN1 | with_reducible exact (unhide aN1).next (Below.refl _ _).drew)).mono ?_; rintro e aw2 ⟨rfl, hb2⟩; have aB2 : Hid (Below wr.heap.size wr aw2) := (by first | with_reducible exact hide (nnext (unhide aB1) hb2) | with_reducible exact hide (nnext (nnext (unhide aB1) (Below.refl _ _).drew) hb2)); clear hb2))
          all_goals go_wp2_with fail
          all_goals go_meet
          all_goals exact ⟨rfl, rfl, by first | exact aB2 | exact hide (unhide aB2).drew⟩
        case rest =>
          obtain ⟨rfl, rfl, hB2⟩ := hcut
          have B3 := hide (nnext (unhide hB) (unhide hB2))
          clear d0 KD P5 CO1 c0 c1 c2
          go_wp2_with fail
          go_roundg (L.length - (0 + 1))
          case measure => omega
          case rel => exact ⟨0 + 1, rfl, by omega, Nat.le_refl _, B3⟩
      | succ j =>
        obtain ⟨y, hy⟩ : ∃ y, L[j]? = some y := ⟨_, List.getElem?_eq_getElem (by omega)⟩
        have hbf := unhide HBN j x y hx hy
        have hlt2 := unhide HLT j x y hx hy
        have hne : (y == x) = false := by simpa using bl_ne hlt2
        have hne2 : (x == y) = false := by simpa using (bl_ne hlt2).symm
        have hge := bl_asymm hlt2
        have hj1 : (0 : Int) ≤ (j : Int) + 1 := by omega
        have hkk : (j : Int) + 1 < (L.length : Int) := by omega
        have KY : Hid (∀ V, Below wr.heap.size wr V → V.cell? ⟨b, off + j, none⟩ = some (.string ⟨y.toArray⟩)) := hide (fun V hV => by
          obtain ⟨b', off', cap', he', _, q⟩ := unhide HK3 V (nnext (nnext (unhide D8) (unhide hB)) hV) j y hy
          simp only [Value.slice.injEq, Option.some.injEq, Addr.mk.injEq, and_true, true_and] at he'
          obtain ⟨⟨rfl, rfl⟩, _⟩ := he'
          exact q.s0 hy)
        unfold befS befB at P5
        rw [hbf] at P5
        simp only [Option.getD_some, Option.isSome_some] at P5
        clear hbf hx hy
        go_upto_region 14 with fail
        go_cut [17, 18] from 104 to 146 (fun t17 t18 wx => t17 = .string ⟨y.toArray⟩ ∧ t18 = .bool true ∧ Hid (Below wr.heap.size wr wx))
        case first =>
          go_region_law (first
            | (go_simp; refine (unhide CO1 _ (by first | with_reducible exact Below.refl _ _ | with_reducible exact (Below.refl _ _).drew)).mono ?_; rintro e aw1 ⟨avn1, avs1, rfl, on1, os1, hb1⟩; have aB1 : Hid (Below wr.heap.size wr aw1) := hide (nnext (by first | with_reducible exact Below.refl _ _ | with_reducible exact (Below.refl _ _).drew) hb1); have aN1 := hide on1.seq; obtain ⟨ana, anc, rfl, _⟩ := on1.slice; obtain ⟨asa, asc, rfl, _⟩ := os1.slice; have ad1 := unhide KD aw1 (unhide aB1); clear on1 os1 hb1)
            | (go_simp; refine (unhide P5 _ _ _ (by first | with_reducible exact unhide aN1 | with_reducible exact (unhide aN1).next (Below.refl _ _).drew)).mono ?_; rintro e aw2 ⟨rfl, hb2⟩; have aB2 : Hid (Below wr.heap.size wr aw2) := (by first | with_reducible exact hide (nnext (unhide aB1) hb2) | with_reducible exact hide (nnext (nnext (unhide aB1) (Below.refl _ _).drew) hb2)); clear hb2))
          all_goals go_wp2_with fail
          all_goals go_meet
          all_goals exact ⟨rfl, rfl, by first | exact aB2 | exact hide (unhide aB2).drew⟩
        case rest =>
          obtain ⟨rfl, rfl, hB2⟩ := hcut
          have B3 := hide (nnext (unhide hB) (unhide hB2))
          have f0 := unhide KD wc (unhide hB2)
          have f1 := unhide KY wc (unhide hB2)
          have hkj : (j : Int) < (L.length : Int) := by omega
          have hj0 : (0 : Int) < (j : Int) + 1 := by omega
          simp only [bl] at hlt2 hge
          clear d0 KD KY P5 CO1 c0 c1 c2
          go_wp2_with fail
          go_roundg (L.length - (j + 1 + 1))
          case measure => omega
          case rel => exact ⟨j + 1 + 1, rfl, by omega, Nat.le_refl _, B3⟩
    · obtain rfl : k = L.length := by omega
      have hkk : ¬ (L.length : Int) < (L.length : Int) := by omega
      go_wp2_with fail
      refine (unhide CO1 _ (Below.refl _ _)).mono ?_
      rintro e w10 ⟨vn10, vs10, rfl, hn10, hs10, hb10⟩
      have T10 := hide ((unhide T9).next hb10)
      have C11 := unhide P4 w10 vn10 vs10 hn10.seq
      obtain ⟨na10, nc10, rfl, _⟩ := hn10.slice
      obtain ⟨sa10, sc10, rfl, _⟩ := hs10.slice
      clear hb10 hn10 hs10 c0 c1 c2 CO1
      go_wp2_with fail
      refine C11.mono ?_
      rintro e w11 ⟨rfl, hb11⟩
      have T11 := hide ((unhide T10).next hb11)
      clear hb11 C11
      go_wp2_with fail
      go_ret
      exact ⟨by rfl, (unhide T11).b⟩

theorem recipeFirst_walk (t : Tr) (vn vs : Value) (d m : List UInt8) (w : World) (hn : SeqV w vn t.ns) (hs : SeqV w vs t.ss) (hw : WfT t) (hml : m.length ≤ 140737488355328) (hl : t.ns.length * 88 ≤ 140737488351232) (hls : t.ss.length * 8 ≤ 140737488351232) :
    Calls Tryd.prog 3 #[.agg #[.int .i64 t.z, vn, vs], .string ⟨d.toArray⟩, .string ⟨m.toArray⟩] w fun e w' => e = .returned (.bool true) ∧ Below w.heap.size w w' := by
  cases hg : goodT t
  · exact recipeFirst_no t vn vs d m w hn hs hw hg
  · cases hL : linL t.ns d m with
    | nil => exact recipeFirst_nil t vn vs d m w hn hs hw hml hl hls hg hL
    | cons x r => exact recipeFirst_some t vn vs d m x r w hn hs hw hml hl hls hg hL

end Go.Proofs.YtmebfelofjgjhaaDoor

namespace Go.Proofs.YtmebfelofjgjhaaDoor
open Go.ChangeShapes Go.WideShapes Go.ChangeAt Go.RowKit Go.ChangeMaps

theorem ncellsStr : Tryd.prog.cellsOf 9 = 1 := by kernel_rfl
theorem ncellsInt : Tryd.prog.cellsOf 3 = 1 := by kernel_rfl
theorem ncellsNode : Tryd.prog.cellsOf 40 = 9 := by kernel_rfl
theorem ncellsStat : Tryd.prog.cellsOf 38 = 7 := by kernel_rfl
theorem ncellsNs : Tryd.prog.cellsOf 22 = 1 := by kernel_rfl
theorem ncellsIs : Tryd.prog.cellsOf 23 = 1 := by kernel_rfl
theorem ncellsTree : Tryd.prog.cellsOf 25 = 3 := by kernel_rfl
theorem nbytesNode : Tryd.prog.bytesOf 40 = 88 := by kernel_rfl
theorem nbytesInt : Tryd.prog.bytesOf 3 = 8 := by kernel_rfl
theorem nlaidOut : laidOutB Tryd.prog = true := by kernel_rfl
theorem nlist_of (s : ByteArray) : ∃ l : List UInt8, s = ⟨l.toArray⟩ := ⟨s.data.toList, rfl⟩

section
variable {H : Type} {enc : TypeId × Value → H} {W : World} {base : Nat} {spare : Nat → Bool} {held : Bool}
def nodeD (n : Nd) : DataW H := .agg [.lit (.string n.p), .lit (.string n.d), .agg [.lit (.int .i64 n.c), .lit (.int .i64 n.m), .lit (.int .i64 n.q), .lit (.int .i64 n.v), .lit (.int .i64 n.k), .lit (.int .i64 n.o), .lit (.int .i64 n.n)]]
set_option maxRecDepth 10000 in
theorem open_stat {n : Nat} {cs : List Value} {x : DataW H × List MemPlace} (hl : cs.length = 7) (h : DataW.trod enc Tryd.prog W base spare held n 38 cs = some x) :
    ∃ i0 i1 i2 i3 i4 i5 i6 : Int, cs = [.int .i64 i0, .int .i64 i1, .int .i64 i2, .int .i64 i3, .int .i64 i4, .int .i64 i5, .int .i64 i6] ∧ x.1 = .agg [.lit (.int .i64 i0), .lit (.int .i64 i1), .lit (.int .i64 i2), .lit (.int .i64 i3), .lit (.int .i64 i4), .lit (.int .i64 i5), .lit (.int .i64 i6)] := by
  match cs, hl with
  | [c0, c1, c2, c3, c4, c5, c6], _ =>
    obtain ⟨xs, k, _, hx, _, hlen, hfs⟩ := DataW.trod_struct Tryd.underlying38 h
    match xs, hlen with
    | [y0, y1, y2, y3, y4, y5, y6], _ =>
      obtain ⟨i0, e0, rfl, _⟩ := DataW.trod_int Tryd.underlying3 (show DataW.trod enc Tryd.prog W base spare held k 3 [c0] = some y0 by simpa [ncellsInt] using hfs 0 _ rfl)
      obtain ⟨i1, e1, rfl, _⟩ := DataW.trod_int Tryd.underlying3 (show DataW.trod enc Tryd.prog W base spare held k 3 [c1] = some y1 by simpa [ncellsInt] using hfs 1 _ rfl)
      obtain ⟨i2, e2, rfl, _⟩ := DataW.trod_int Tryd.underlying3 (show DataW.trod enc Tryd.prog W base spare held k 3 [c2] = some y2 by simpa [ncellsInt] using hfs 2 _ rfl)
      obtain ⟨i3, e3, rfl, _⟩ := DataW.trod_int Tryd.underlying3 (show DataW.trod enc Tryd.prog W base spare held k 3 [c3] = some y3 by simpa [ncellsInt] using hfs 3 _ rfl)
      obtain ⟨i4, e4, rfl, _⟩ := DataW.trod_int Tryd.underlying3 (show DataW.trod enc Tryd.prog W base spare held k 3 [c4] = some y4 by simpa [ncellsInt] using hfs 4 _ rfl)
      obtain ⟨i5, e5, rfl, _⟩ := DataW.trod_int Tryd.underlying3 (show DataW.trod enc Tryd.prog W base spare held k 3 [c5] = some y5 by simpa [ncellsInt] using hfs 5 _ rfl)
      obtain ⟨i6, e6, rfl, _⟩ := DataW.trod_int Tryd.underlying3 (show DataW.trod enc Tryd.prog W base spare held k 3 [c6] = some y6 by simpa [ncellsInt] using hfs 6 _ rfl)
      simp only [List.cons.injEq, and_true] at e0 e1 e2 e3 e4 e5 e6
      subst e0 e1 e2 e3 e4 e5 e6
      subst hx
      exact ⟨i0, i1, i2, i3, i4, i5, i6, rfl, rfl⟩
set_option maxRecDepth 10000 in
theorem open_node {n : Nat} {cs : List Value} {x : DataW H × List MemPlace} (hl : cs.length = 9) (h : DataW.trod enc Tryd.prog W base spare held n 40 cs = some x) : ∃ f : Nd, cs = ncells f ∧ x.1 = nodeD f := by
  match cs, hl with
  | [c0, c1, c2, c3, c4, c5, c6, c7, c8], _ =>
    obtain ⟨xs, k, _, hx, _, hlen, hfs⟩ := DataW.trod_struct Tryd.underlying40 h
    match xs, hlen with
    | [y0, y1, y2], _ =>
      obtain ⟨s0, e0, rfl, _⟩ := DataW.trod_string Tryd.underlying9 (show DataW.trod enc Tryd.prog W base spare held k 9 [c0] = some y0 by simpa [ncellsStr] using hfs 0 _ rfl)
      obtain ⟨s1, e1, rfl, _⟩ := DataW.trod_string Tryd.underlying9 (show DataW.trod enc Tryd.prog W base spare held k 9 [c1] = some y1 by simpa [ncellsStr] using hfs 1 _ rfl)
      obtain ⟨i0, i1, i2, i3, i4, i5, i6, e2, hy⟩ := open_stat (cs := [c2, c3, c4, c5, c6, c7, c8]) rfl (show DataW.trod enc Tryd.prog W base spare held k 38 [c2, c3, c4, c5, c6, c7, c8] = some y2 by simpa [ncellsStr, ncellsStat] using hfs 2 _ rfl)
      simp only [List.cons.injEq, and_true] at e0 e1 e2
      obtain ⟨rfl, rfl, rfl, rfl, rfl, rfl, rfl⟩ := e2
      subst e0 e1
      obtain ⟨l0, rfl⟩ := nlist_of s0
      obtain ⟨l1, rfl⟩ := nlist_of s1
      subst hx
      refine ⟨⟨l0, l1, i0, i1, i2, i3, i4, i5, i6⟩, rfl, ?_⟩
      simp [nodeD, hy]
theorem weights_node (n : Nd) : DataW.weights Tryd.prog 40 (nodeD n : DataW H) = [n.p.length, n.d.length] := by
  simp [DataW.weights, nodeD, Tryd.underlying40, Tryd.underlying38, DataW.weightsEach]
theorem nweightsAll_mem {e : TypeId} : ∀ (l : List (DataW H)) (d : DataW H) (x : Nat), d ∈ l → x ∈ DataW.weights Tryd.prog e d → x ∈ DataW.weightsAll Tryd.prog e l
  | d' :: r, d, x, h, hx => by
    rw [DataW.weightsAll]
    rcases List.mem_cons.1 h with rfl | h
    · exact List.mem_append.2 (.inl hx)
    · exact List.mem_append.2 (.inr (nweightsAll_mem r d x h hx))
set_option maxRecDepth 10000 in
theorem open_nodes {fuel : Nat} {v : Value} {y : DataW H × List MemPlace} (h : DataW.trod enc Tryd.prog W base spare held fuel 22 [v] = some y) :
    ∃ xs : List Nd, SeqV W v xs ∧ ∀ M, (∀ x ∈ DataW.weights Tryd.prog 22 y.1, x ≤ M) → (∀ f ∈ xs, f.p.length ≤ M ∧ f.d.length ≤ M) ∧ xs.length * 88 ≤ M := by
  rcases Go.Deep.open_slice Tryd.underlying22 h with ⟨h1, hx⟩ | ⟨a, len, cap, m, k, D, Pl, h1, hb, hl, hm, hmm, hx, hel⟩
  · simp only [List.cons.injEq, and_true] at h1
    rw [h1]
    exact ⟨[], SeqV.nil W, fun M _ => ⟨by simp, by simp⟩⟩
  · simp only [List.cons.injEq, and_true] at h1
    rw [h1]
    subst hx
    have hlm : len ≤ m := by rw [hmm]; split <;> omega
    have each : ∀ i, i < len → ∃ f : Nd, (∀ c, c < 9 → W.cell? (a.add (i * 9 + c)) = (Lay.cs f)[c]?) ∧ D i = nodeD f := by
      intro i hi
      obtain ⟨cs', g1, g2⟩ := hel i (by omega)
      rw [ncellsNode] at g1
      obtain ⟨_, hlen, hcell⟩ := World.cells?_some g1
      obtain ⟨f, rfl, hd⟩ := open_node hlen g2
      refine ⟨f, fun c hc => ?_, hd⟩
      have := hcell c hc
      rwa [Go.Deep.add_add] at this
    obtain ⟨F, hF⟩ := Go.Deep.choose_lt each
    refine ⟨(List.range len).map F, ?_, ?_⟩
    · by_cases h0 : len = 0
      · subst h0
        exact .inl ⟨some a, cap, rfl, rfl, hm⟩
      · have c0 := (hF 0 (by omega)).1 0 (by decide)
        obtain ⟨b, off, sp⟩ := a
        have hsp : sp = none := by
          cases sp with
          | none => rfl
          | some s => simp [World.cell?, Addr.add, Lay.cs, ncells] at c0; split at c0 <;> simp at c0
        subst hsp
        have hblt : b < W.heap.size := World.block_lt_of_cell? W _ (show W.cell? ((⟨b, off, none⟩ : Addr).add (0 * 9 + 0)) = some _ from c0) |> fun h => by simpa [Addr.add] using h
        refine .inr ⟨b, off, cap, by simp, by simpa using hl, hm, hblt, by simp; omega, fun j u hj => ?_⟩
        have hjl : j < len * 9 := by
          have := (List.getElem?_eq_some_iff.1 hj).1
          rw [cellsL_length, List.length_map, List.length_range] at this
          exact this
        have hi : j / 9 < len := by omega
        have hg := cellsL_get ((List.range len).map F) (j / 9) (F (j / 9)) (by rw [List.getElem?_map, List.getElem?_range hi]; rfl) (j % 9) (by show j % 9 < 9; omega)
        rw [show j / 9 * Lay.k Nd + j % 9 = j by show j / 9 * 9 + j % 9 = j; omega, hj] at hg
        have := (hF (j / 9) hi).1 (j % 9) (by omega)
        rw [show j / 9 * 9 + j % 9 = j by omega, Addr.add_lit, ← hg] at this
        exact this
    · intro M hM
      have hw : DataW.weights Tryd.prog 22 (.slice ((List.range len).map D) ((List.range (m - len)).map fun j => D (len + j)) : DataW H) =
          (len + (m - len)) * 88 :: (DataW.weightsAll Tryd.prog 40 ((List.range len).map D) ++ DataW.weightsAll Tryd.prog 40 ((List.range (m - len)).map fun j => D (len + j))) := by
        simp [DataW.weights, Tryd.underlying22, nbytesNode]
      rw [hw] at hM
      refine ⟨fun f hf => ?_, ?_⟩
      · obtain ⟨i, hi, rfl⟩ := List.mem_map.1 hf
        have hi' : i < len := by simpa using hi
        have key : ∀ x ∈ DataW.weights Tryd.prog 40 (D i), x ≤ M := fun x hx => hM x (List.mem_cons_of_mem _ (List.mem_append.2 (.inl (nweightsAll_mem _ (D i) x (List.mem_map.2 ⟨i, hi, rfl⟩) hx))))
        rw [(hF i hi').2, weights_node] at key
        exact ⟨key _ (by simp), key _ (by simp)⟩
      · have := hM _ (List.mem_cons_self ..)
        simp only [List.length_map, List.length_range]
        omega
set_option maxRecDepth 10000 in
theorem open_ints {fuel : Nat} {v : Value} {y : DataW H × List MemPlace} (h : DataW.trod enc Tryd.prog W base spare held fuel 23 [v] = some y) :
    ∃ xs : List Int, SeqV W v xs ∧ (∀ s ∈ xs, -9223372036854775808 ≤ s ∧ s ≤ 9223372036854775807) ∧ ∀ M, (∀ x ∈ DataW.weights Tryd.prog 23 y.1, x ≤ M) → xs.length * 8 ≤ M := by
  rcases Go.Deep.open_slice Tryd.underlying23 h with ⟨h1, hx⟩ | ⟨a, len, cap, m, k, D, Pl, h1, hb, hl, hm, hmm, hx, hel⟩
  · simp only [List.cons.injEq, and_true] at h1
    rw [h1]
    exact ⟨[], SeqV.nil W, by simp, fun M _ => by simp⟩
  · simp only [List.cons.injEq, and_true] at h1
    rw [h1]
    subst hx
    have hlm : len ≤ m := by rw [hmm]; split <;> omega
    have each : ∀ i, i < len → ∃ f : Int, (∀ c, c < 1 → W.cell? (a.add (i * 1 + c)) = (Lay.cs f)[c]?) ∧ (-9223372036854775808 ≤ f ∧ f ≤ 9223372036854775807) := by
      intro i hi
      obtain ⟨cs', g1, g2⟩ := hel i (by omega)
      rw [ncellsInt] at g1
      obtain ⟨_, hlen, hcell⟩ := World.cells?_some g1
      obtain ⟨c0, rfl⟩ : ∃ c0, cs' = [c0] := List.length_eq_one_iff.1 hlen
      obtain ⟨f, e0, _, hw⟩ := DataW.trod_int Tryd.underlying3 g2
      have hd := bounds_i64 hw
      simp only [List.cons.injEq, and_true] at e0
      subst e0
      refine ⟨f, fun c hc => ?_, hd⟩
      have := hcell c hc
      rwa [Go.Deep.add_add] at this
    obtain ⟨F, hF⟩ := Go.Deep.choose_lt each
    refine ⟨(List.range len).map F, ?_, ?_, ?_⟩
    · by_cases h0 : len = 0
      · subst h0
        exact .inl ⟨some a, cap, rfl, rfl, hm⟩
      · have c0 := (hF 0 (by omega)).1 0 (by decide)
        obtain ⟨b, off, sp⟩ := a
        have hsp : sp = none := by
          cases sp with
          | none => rfl
          | some s => simp [World.cell?, Addr.add, Lay.cs] at c0; split at c0 <;> simp at c0
        subst hsp
        have hblt : b < W.heap.size := World.block_lt_of_cell? W _ (show W.cell? ((⟨b, off, none⟩ : Addr).add (0 * 1 + 0)) = some _ from c0) |> fun h => by simpa [Addr.add] using h
        refine .inr ⟨b, off, cap, by simp, by simpa using hl, hm, hblt, by simp; omega, fun j u hj => ?_⟩
        have hjl : j < len * 1 := by
          have := (List.getElem?_eq_some_iff.1 hj).1
          rw [cellsL_length, List.length_map, List.length_range] at this
          exact this
        have hi : j / 1 < len := by omega
        have hg := cellsL_get ((List.range len).map F) (j / 1) (F (j / 1)) (by rw [List.getElem?_map, List.getElem?_range hi]; rfl) (j % 1) (by show j % 1 < 1; omega)
        rw [show j / 1 * Lay.k Int + j % 1 = j by show j / 1 * 1 + j % 1 = j; omega, hj] at hg
        have := (hF (j / 1) hi).1 (j % 1) (by omega)
        rw [show j / 1 * 1 + j % 1 = j by omega, Addr.add_lit, ← hg] at this
        exact this
    · intro s hs
      obtain ⟨i, hi, rfl⟩ := List.mem_map.1 hs
      exact (hF i (by simpa using hi)).2
    · intro M hM
      have hw : DataW.weights Tryd.prog 23 (.slice ((List.range len).map D) ((List.range (m - len)).map fun j => D (len + j)) : DataW H) =
          (len + (m - len)) * 8 :: (DataW.weightsAll Tryd.prog 3 ((List.range len).map D) ++ DataW.weightsAll Tryd.prog 3 ((List.range (m - len)).map fun j => D (len + j))) := by
        simp [DataW.weights, Tryd.underlying23, nbytesInt]
      rw [hw] at hM
      have := hM _ (List.mem_cons_self ..)
      simp only [List.length_map, List.length_range]
      omega
set_option maxRecDepth 10000 in
theorem open_tree {r : Reach} {b0 : Nat} {v : Value} {d : DataW H} {p : List MemPlace}
    (hv : Value.okWide Tryd.prog W r b0 25 v) (h : DataW.Trod enc Tryd.prog W base spare held 25 v d p) :
    ∃ vn vs t, v = .agg #[.int .i64 t.z, vn, vs] ∧ SeqV W vn t.ns ∧ SeqV W vs t.ss ∧ ∀ M, M ≤ 140737488355328 → (∀ x ∈ DataW.weights Tryd.prog 25 d, x ≤ M) → WfT t ∧ t.ns.length * 88 ≤ M ∧ t.ss.length * 8 ≤ M := by
  obtain ⟨cs, rfl, hsz⟩ := okWide_struct Tryd.underlying25 hv
  have hsz1 : cs.size = 3 := hsz.trans ncellsTree
  obtain ⟨l⟩ := cs
  match l, hsz1 with
  | [c0, c1, c2], _ =>
    obtain ⟨fuel, hf⟩ := h
    have hf' : DataW.trod enc Tryd.prog W base spare held fuel 25 [c0, c1, c2] = some (d, p) := by simpa [Value.cells] using hf
    obtain ⟨xs, k, _, hx, _, hlen, hfs⟩ := DataW.trod_struct Tryd.underlying25 hf'
    match xs, hlen with
    | [y0, y1, y2], _ =>
      obtain ⟨z, e0, rfl, _⟩ := DataW.trod_int Tryd.underlying3 (show DataW.trod enc Tryd.prog W base spare held k 3 [c0] = some y0 by simpa [ncellsInt] using hfs 0 _ rfl)
      obtain ⟨ns, hn, hN⟩ := open_nodes (show DataW.trod enc Tryd.prog W base spare held k 22 [c1] = some y1 by simpa [ncellsInt, ncellsNs] using hfs 1 _ rfl)
      obtain ⟨ss, hs, hb, hS⟩ := open_ints (show DataW.trod enc Tryd.prog W base spare held k 23 [c2] = some y2 by simpa [ncellsInt, ncellsNs, ncellsIs] using hfs 2 _ rfl)
      simp only [List.cons.injEq, and_true] at e0
      subst e0
      simp only [Prod.mk.injEq] at hx
      obtain ⟨rfl, _⟩ := hx
      refine ⟨c1, c2, ⟨z, ns, ss⟩, rfl, hn, hs, fun M hM hw => ?_⟩
      have hww : DataW.weights Tryd.prog 25 (.agg (List.map Prod.fst [(DataW.lit (.int .i64 z), []), y1, y2]) : DataW H) = DataW.weights Tryd.prog 22 y1.1 ++ DataW.weights Tryd.prog 23 y2.1 := by
        simp [DataW.weights, Tryd.underlying25, DataW.weightsEach]
      have hw1 : ∀ x ∈ DataW.weights Tryd.prog 22 y1.1, x ≤ M := fun x hx => hw x (by rw [hww]; exact List.mem_append.2 (.inl hx))
      have hw2 : ∀ x ∈ DataW.weights Tryd.prog 23 y2.1, x ≤ M := fun x hx => hw x (by rw [hww]; exact List.mem_append.2 (.inr hx))
      obtain ⟨h1, h2⟩ := hN M hw1
      exact ⟨⟨hb, fun n hn => by have := h1 n hn; omega⟩, h2, hS M hw2⟩
theorem sized_tree {ts : List TypeId} {ds : List (DataW H)} (h : (DataW.weightsEach Tryd.prog ts ds).all (· ≤ reachBytes) = true) {j : Nat} {d : DataW H} (ht : ts[j]? = some 25) (hd : ds[j]? = some d) : ∀ x ∈ DataW.weights Tryd.prog 25 d, x ≤ 140737488351232 := by
  intro x hx
  have e : reachBytes = 140737488351232 := by decide
  have h1 := List.all_eq_true.1 h _ (DataW.weights_mem_each ht hd x hx)
  rw [e] at h1
  simpa using h1
end
end Go.Proofs.YtmebfelofjgjhaaDoor
