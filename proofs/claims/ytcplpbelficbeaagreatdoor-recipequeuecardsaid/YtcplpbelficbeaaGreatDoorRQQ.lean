/-
  What tree.counted and tree.Good answer: the walks, with the map of counts.
  tree.Get at a good tree, in one contract; the boxes of prep.
-/
import Derived.Test.YtcplpbelficbeaaGreatDoorRQP
import Derived.Test.YtcplpbelficbeaaGreatDoorRQI
import Derived.Maps.OwnOps
import Derived.Maps.Views
import Derived.Test.YtcplpbelficbeaaGreatDoorRQN
import Derived.Test.YtcplpbelficbeaaGreatDoorRQO
namespace Go.Proofs.YtcplpbelficbeaaGreatDoor
open Go.RowKit Go.WideMaps Go.Maps

theorem mlaw : Keyed Tryz.prog 9 := string_keyed Tryz.underlying9
theorem mzero (w : World) : (zeroValue 3).run Tryz.prog w = .ok (.int .i64 0) w := by kernel_rfl

/-- block B is the map of how many of these nodes have each text as their parent -/
def Counts (w : World) (B k : Nat) (ns : List Nd) : Prop :=
  ∃ D : DataW Unit, w.ownsMap Tryz.prog 9 (plainElem Tryz.prog 3) B k D ∧ IsMap D ∧ ∀ s : List UInt8, D.atKey (.string s) (.lit (.int .i64 0)) = .lit (.int .i64 (kidsN ns s))
theorem kidsN_snoc (ns : List Nd) (n : Nd) (s : List UInt8) : kidsN (ns ++ [n]) s = kidsN ns s + (if dirOf n.p = s then 1 else 0) := by
  simp only [kidsN, List.countP_append, List.countP_cons, List.countP_nil, decide_eq_true_eq]; omega
theorem kidsN_le (ns : List Nd) (s : List UInt8) : kidsN ns s ≤ ns.length := List.countP_le_length
theorem counts_step {D : DataW Unit} {ns : List Nd} {n : Nd} (hm : IsMap D) (hD : ∀ s : List UInt8, D.atKey (.string s) (.lit (.int .i64 0)) = .lit (.int .i64 (kidsN ns s))) (s : List UInt8) :
    (D.put (.string (dirOf n.p)) (.lit (.int .i64 (kidsN ns (dirOf n.p) + 1)))).atKey (.string s) (.lit (.int .i64 0)) = .lit (.int .i64 (kidsN (ns ++ [n]) s)) := by
  rw [kidsN_snoc]
  by_cases e : dirOf n.p = s
  · subst e
    rw [atKey_put_same hm (show WideAt.IsKeyLit (.string _) from trivial)]
    simp
  · rw [atKey_put_other (by simpa using fun h => e h.symm), hD, if_neg e]
    simp

set_option maxRecDepth 100000 in
set_option maxHeartbeats 2000000 in
theorem counted_map (b off cap : Nat) (ns : List Nd) (w : World) (hl : ns.length ≤ 400) (hb : b < w.heap.size) (hr : RowAt w b off (cellsL ns)) :
    Calls Tryz.prog 29 #[.slice (some ⟨b, off, none⟩) ns.length cap] w fun e w' => e = .returned (.map (some w.heap.size)) ∧ Counts w' w.heap.size 400 ns ∧ Below w.heap.size w w' := by
  have H := hide hr
  clear hr
  have hmm := @run_makeMap Tryz.prog
  go_enter Tryz.func29, Tryz.ntmps29
  go_wp2_with fail
  go_loopg [12] ns.length (fun kx i wr => ∃ k : Nat, i = .int .i64 k ∧ k ≤ ns.length ∧ ns.length - k ≤ kx ∧ Hid (Counts wr w.heap.size k (ns.take k)) ∧ Hid (Below w.heap.size w wr))
  case atStart => exact ⟨0, rfl, Nat.zero_le _, Nat.le_refl _, hide ⟨_, World.ownsMap_made _ _ _ _, isMap_empty, fun s => by rfl⟩, hide (allocB _ _)⟩
  case round =>
    obtain ⟨k, rfl, hk, hg, hC, hB⟩ := hrel
    by_cases hlt : k < ns.length
    · obtain ⟨x, hx⟩ : ∃ x, ns[k]? = some x := ⟨_, List.getElem?_eq_getElem hlt⟩
      have q := (unhide H).kept (unhide hB) hb
      have d0 := q.n0 hx
      have d1 := q.n1 hx
      have d2 := q.n2 hx
      have d3 := q.n3 hx
      have d4 := q.n4 hx
      have d5 := q.n5 hx
      have d6 := q.n6 hx
      have d7 := q.n7 hx
      have d8 := q.n8 hx
      have hbw : b < wr.heap.size := Nat.lt_of_lt_of_le hb (unhide hB).size
      have hts : ns.take (k + 1) = ns.take k ++ [x] := by rw [List.take_add_one, hx]; rfl
      have HT := hide hts
      clear q hx hts
      have CS := fun W => split_any x.p W
      have hdl : (dirOf x.p).length ≤ 1000 := by
        cases hgb : goodB x.p with
        | false => rw [dirOf_bad hgb]; simp
        | true =>
          by_cases hr : x.p = [47]
          · rw [hr, dirOf_root]; simp
          · obtain ⟨a, c, he, hc⟩ := good_cut hgb
            have := goodB_le hgb
            rw [he] at hgb hr this ⊢
            rw [dirOf_cut hgb hr hc, nupL]
            split
            · simp
            · simp at this; omega
      have HDL := hide hdl
      clear hdl
      obtain ⟨D, ho, hm, hD⟩ := unhide hC
      have HD := hide hD
      have HM := hide hm
      have hc1 := kidsN_le (ns.take k) (dirOf x.p)
      simp only [List.length_take] at hc1
      have STEP := hide (fun s => counts_step (n := x) hm hD s)
      obtain ⟨cn, hcn⟩ : ∃ cn, kidsN (ns.take k) (dirOf x.p) = cn := ⟨_, rfl⟩
      rw [hcn] at hc1
      have HCN := hide hcn
      clear hD hm hcn
      generalize hdp : dirOf x.p = dp at CS HDL
      have HDP := hide hdp
      clear hdp
      generalize stepOf x.p = sp at CS
      generalize splE x.p = ep at CS
      go_wp2_with fail
      refine (CS _).mono ?_
      rintro e w1 ⟨rfl, hb1⟩
      have hB1 : Below w.heap.size w w1 := nnext (unhide hB) (nbox_then hb1)
      have ho1 : w1.ownsMap Tryz.prog 9 (plainElem Tryz.prog 3) w.heap.size k D := by
        have : Below wr.heap.size wr w1 := nbox_then hb1
        obtain ⟨es, cl, h1, h2⟩ := ho
        exact ⟨es, cl, (this.block _ (Array.getElem?_eq_some_iff.1 h1).1).trans h1, h2⟩
      have hkey : keyOf Tryz.prog 9 (.string ⟨dp.toArray⟩) = some (.string dp) := by
        have := keyOf_string_mk (P := Tryz.prog) Tryz.underlying9 (s := ⟨dp.toArray⟩) (by have := unhide HDL; simp only [maxLen, ByteArray.size, List.size_toArray]; omega)
        simpa using this
      obtain ⟨c, hrun, hat, _⟩ := ho1.lookup_int mlaw Tryz.underlying71 Tryz.underlying3 (mzero _) hkey
      have hcc : c = (cn : Int) := by
        rw [unhide HD, ← unhide HDP, unhide HCN] at hat
        simpa using hat.symm
      subst hcc
      clear CS hat hb1 ho d0 d1 d2 d3 d4 d5 d6 d7 d8
      go_wp2_with (first
        | (at_mapUpdate; refine wpList_mapUpdate_own _ rfl _ _ _ 71 rfl 9 3 mlaw Tryz.underlying71 _ w.heap.size k _ rfl ho1 (by unfold maxLen; omega) _ _ _ rfl rfl hkey _ [] (plainElem_int Tryz.underlying3 (WalkArith.wf_i64 (by omega))) ?_)
        | fail)
      intro w2 hown1 hgrow1
      have B2 := hB1.grown hgrow1 hB1.size (fun j hj => by cases hj; exact Nat.le_refl _)
      have C2 : Counts w2 w.heap.size (k + 1) (ns.take (k + 1)) := by
        refine ⟨_, hown1, (unhide HM).put _ _, fun s => ?_⟩
        rw [unhide HT, ← unhide STEP s, unhide HCN, unhide HDP]
      have HC2 := hide C2
      have HB2 := hide B2
      clear C2 B2 hown1 hgrow1 ho1 hrun hB1
      go_wp2_with fail
      go_roundg (ns.length - (k + 1))
      case measure => omega
      case rel => exact ⟨k + 1, rfl, by omega, Nat.le_refl _, HC2, HB2⟩
    · obtain rfl : k = ns.length := by omega
      go_wp2_with fail
      go_ret
      obtain ⟨D, ho, hm, hD⟩ := unhide hC
      exact ⟨rfl, ⟨D, ho.mono (by omega), hm, fun s => by rw [hD, List.take_length]⟩, unhide hB⟩

/-- numbers and texts as great as a machine has them -/
structure WfT (t : Tr) : Prop where
  ses : ∀ s ∈ t.ss, -9223372036854775808 ≤ s ∧ s ≤ 9223372036854775807
  slim : ∀ n ∈ t.ns, n.p.length ≤ 140737488355328 ∧ n.d.length ≤ 140737488355328
def OkG (t : Tr) (k : Nat) : Prop := ∀ i, i < k → ∀ n, t.ns[i]? = some n → PartP t.z t.ns t.ss n
theorem okg_succ {t : Tr} {k : Nat} (h : OkG t k) {n : Nd} (hn : t.ns[k]? = some n) (hp : PartP t.z t.ns t.ss n) : OkG t (k + 1) := by
  intro i hi m hm
  by_cases e : i = k
  · subst e; rw [hn] at hm; cases hm; exact hp
  · exact h i (by omega) m hm
theorem good_yes {t : Tr} (hz : zGood t.z = true) (ho : OrdN t.ns) (hs : SAsc t.ss) (h : OkG t t.ns.length) {r : Nd} (hr : t.ns[0]? = some r) : goodT t = decide (r.o = 0) := by
  by_cases h0 : r.o = 0
  · rw [decide_eq_true h0, goodT_true, good_parts]
    refine ⟨hz, ho, hs, fun n hn => ?_, fun r' h => by rw [hr] at h; cases h; exact h0⟩
    obtain ⟨i, hi, rfl⟩ := List.getElem_of_mem hn
    exact h i hi _ (List.getElem?_eq_getElem hi)
  · rw [decide_eq_false h0, goodT_false, good_parts]
    exact fun g => h0 (g.2.2.2.2 r hr)
theorem good_no {t : Tr} (h : ¬ (zGood t.z = true ∧ OrdN t.ns ∧ SAsc t.ss)) : goodT t = false := by
  rw [goodT_false, good_parts]; exact fun g => h ⟨g.1, g.2.1, g.2.2.1⟩
theorem good_node {t : Tr} {n : Nd} {k : Nat} (hn : t.ns[k]? = some n) (h : ¬ PartP t.z t.ns t.ss n) : goodT t = false := by
  rw [goodT_false, good_parts]; exact fun g => h (g.2.2.2.1 n (List.mem_of_getElem? hn))
theorem counts_kept {w w' : World} {B k : Nat} {ns : List Nd} (h : Counts w B k ns) (hb : Below w.heap.size w w') : Counts w' B k ns := by
  obtain ⟨D, ⟨es, cl, h1, h2⟩, h3⟩ := h
  exact ⟨D, ⟨es, cl, (hb.block _ (Array.getElem?_eq_some_iff.1 h1).1).trans h1, h2⟩, h3⟩

set_option maxRecDepth 100000 in
set_option maxHeartbeats 4000000 in
theorem tgood_main (t : Tr) (vn vs : Value) (w : World) (hn : SeqV w vn t.ns) (hs : SeqV w vs t.ss) (hw : WfT t) (hz : zGood t.z = true) (ho : OrdN t.ns) (ha : SAsc t.ss) :
    Calls Tryz.prog 14 #[.agg #[.int .i64 t.z, vn, vs]] w fun e w' => e = .returned (.bool (goodT t)) ∧ Below w.heap.size w w' := by
  have hne : t.ns ≠ [] := by obtain ⟨r, rest, h, _⟩ := ho.root; rw [h]; simp
  obtain ⟨r0, hr0⟩ : ∃ r0, t.ns[0]? = some r0 := by obtain ⟨r, rest, h, _⟩ := ho.root; exact ⟨r, by rw [h]; rfl⟩
  have YES := hide (fun h => good_yes hz ho ha h hr0)
  have NO := hide (fun n k h1 h2 => good_node (t := t) (n := n) (k := k) h1 h2)
  have CZ := fun W => zgood_any t.z W
  rw [hz] at CZ
  have CO := hide (fun W (h : Below w.heap.size w W) => ordered_any vn t.ns W (hn.next h))
  have CN := hide (fun W (h : Below w.heap.size w W) => numbered_any vs t.ss W (hs.next h) hw.ses)
  simp only [pd_true ho] at CO
  simp only [pd_true ha] at CN
  have CH := hide (fun p W (h : Below w.heap.size w W) => held_any vn t.ns p W (hn.next h) ho)
  have CSD := hide (fun n k W (h : Below w.heap.size w W) => sound_any t.z vn vs n k t.ss W (hs.next h) ha)
  have hl := ho.few
  have SL := hide hw.slim
  obtain ⟨sa, sc, rfl⟩ := seq_slice hs
  obtain ⟨b, off, cap, rfl, hb, hr, hle, hcm⟩ := seq_row hn hne
  have H := hide hr
  have CC := hide (fun W (h : Below w.heap.size w W) => counted_map b off cap t.ns W hl (Nat.lt_of_lt_of_le hb h.size) (hr.kept h hb))
  have HR0 := hide hr0
  have hpos : 0 < t.ns.length := List.length_pos_iff.2 hne
  clear hn hs hw hz ho ha hne hr hr0
  generalize goodT t = fin at YES NO ⊢
  go_enter Tryz.func14, Tryz.ntmps14
  go_wp2_with fail
  refine (CZ _).mono ?_
  rintro e w0 ⟨rfl, rfl⟩
  have B0 := allocB w (.cells #[.int .i64 t.z, .slice (some ⟨b, off, none⟩) t.ns.length cap, .slice sa t.ss.length sc] 26)
  generalize hW0 : w.alloc (.cells #[.int .i64 t.z, .slice (some ⟨b, off, none⟩) t.ns.length cap, .slice sa t.ss.length sc] 26) = W0 at *
  have b0 : W0.cell? ⟨w.heap.size, 0, none⟩ = some (.int .i64 t.z) := by rw [← hW0]; simp
  have b1 : W0.cell? ⟨w.heap.size, 1, none⟩ = some (.slice (some ⟨b, off, none⟩) t.ns.length cap) := by rw [← hW0]; simp
  have b2 : W0.cell? ⟨w.heap.size, 2, none⟩ = some (.slice sa t.ss.length sc) := by rw [← hW0]; simp
  have hsz : w.heap.size < W0.heap.size := by rw [← hW0]; simp
  have BX := hide (fun W (h : Below W0.heap.size W0 W) => (⟨(h.cell (p := ⟨w.heap.size, 0, none⟩) hsz).trans b0, (h.cell (p := ⟨w.heap.size, 1, none⟩) hsz).trans b1, (h.cell (p := ⟨w.heap.size, 2, none⟩) hsz).trans b2⟩ : W.cell? ⟨w.heap.size, 0, none⟩ = some (.int .i64 t.z) ∧ W.cell? ⟨w.heap.size, 1, none⟩ = some (.slice (some ⟨b, off, none⟩) t.ns.length cap) ∧ W.cell? ⟨w.heap.size, 2, none⟩ = some (.slice sa t.ss.length sc)))
  clear hW0
  go_wp2_with fail
  refine (unhide CO _ B0).mono ?_
  rintro e w1 ⟨rfl, hb1⟩
  obtain ⟨c0, c1, c2⟩ := unhide BX w1 hb1
  clear b0 b1 b2
  go_wp2_with fail
  refine (unhide CN _ (nnext B0 hb1)).mono ?_
  rintro e w2 ⟨rfl, rfl⟩
  go_wp2_with fail
  refine (unhide CC _ (nnext B0 hb1)).mono ?_
  rintro e w3 ⟨rfl, hC3, hb3⟩
  have hb3' := nnext hb1 hb3
  obtain ⟨d0, d1, d2⟩ := unhide BX w3 hb3'
  have HC := hide hC3
  clear c0 c1 c2 CO CN CC CZ hC3
  go_wp2_with fail
  go_loopg [28] t.ns.length (fun kx i wr => ∃ k : Nat, i = .int .i64 k ∧ k ≤ t.ns.length ∧ t.ns.length - k ≤ kx ∧ Hid (Below W0.heap.size W0 wr) ∧ Hid (Counts wr w2.heap.size 400 t.ns) ∧ Hid (OkG t k))
  case atStart => exact ⟨0, rfl, Nat.zero_le _, Nat.le_refl _, hide hb3', HC, hide (fun i hi => absurd hi (Nat.not_lt_zero _))⟩
  case round =>
    obtain ⟨k, rfl, hk, hg, hB, hC, hO⟩ := hrel
    obtain ⟨x0, x1, x2⟩ := unhide BX wr (unhide hB)
    clear d0 d1 d2
    by_cases hlt : k < t.ns.length
    · obtain ⟨x, hx⟩ : ∃ x, t.ns[k]? = some x := ⟨_, List.getElem?_eq_getElem hlt⟩
      have hBw : Below w.heap.size w wr := nnext B0 (unhide hB)
      have q := (unhide H).kept hBw hb
      have d0 := q.n0 hx
      have d1 := q.n1 hx
      have d2 := q.n2 hx
      have d3 := q.n3 hx
      have d4 := q.n4 hx
      have d5 := q.n5 hx
      have d6 := q.n6 hx
      have d7 := q.n7 hx
      have d8 := q.n8 hx
      have hbw : b < wr.heap.size := Nat.lt_of_lt_of_le hb hBw.size
      have hww : w.heap.size < wr.heap.size := Nat.lt_of_lt_of_le hsz (unhide hB).size
      have sl := unhide SL x (List.mem_of_getElem? hx)
      have sld := sl.2
      have HX := hide hx
      have SLP := hide sl.1
      clear q hx sl
      by_cases hd : x.d.length ≤ 256
      · have HD := hide hd
        cases hh : pd (HeldP t.ns x.p) with
        | false =>
          have G := hide (unhide NO x k (unhide HX) (fun p => by have := pd_true p.held; rw [hh] at this; cases this))
          go_wp2_with fail
          refine (unhide CH x.p _ (nnext hBw (allocB _ _))).mono ?_
          rintro e w4 ⟨rfl, hb4⟩
          have hB4 := nnext hBw (nbox_then hb4)
          rw [hh]
          clear hb4 d0 d1 d2 d3 d4 d5 d6 d7 d8 x0 x1 x2
          go_wp2_with fail
          go_ret
          exact ⟨nret_bool (unhide G).symm, hB4⟩
        | true =>
          have HH := hide hh
          go_wp2_with fail
          refine (unhide CH x.p _ (nnext hBw (allocB _ _))).mono ?_
          rintro e w4 ⟨rfl, hb4⟩
          have hB4 := nnext hBw (nbox_then hb4)
          have hB40 := nnext (unhide hB) (nbox_then hb4)
          rw [hh]
          clear hh
          have r := fun (j : Nat) (hj : j < 9) => hb4.cell (p := ⟨wr.heap.size, j, none⟩) (by simp)
          have y0 : w4.cell? ⟨wr.heap.size, 0, none⟩ = some (.string ⟨x.p.toArray⟩) := by rw [r 0 (by omega)]; simp
          have y2 : w4.cell? ⟨wr.heap.size, 2, none⟩ = some (.int .i64 x.c) := by rw [r 2 (by omega)]; simp
          have y3 : w4.cell? ⟨wr.heap.size, 3, none⟩ = some (.int .i64 x.m) := by rw [r 3 (by omega)]; simp
          have y4 : w4.cell? ⟨wr.heap.size, 4, none⟩ = some (.int .i64 x.q) := by rw [r 4 (by omega)]; simp
          have y5 : w4.cell? ⟨wr.heap.size, 5, none⟩ = some (.int .i64 x.v) := by rw [r 5 (by omega)]; simp
          have y6 : w4.cell? ⟨wr.heap.size, 6, none⟩ = some (.int .i64 x.k) := by rw [r 6 (by omega)]; simp
          have y7 : w4.cell? ⟨wr.heap.size, 7, none⟩ = some (.int .i64 x.o) := by rw [r 7 (by omega)]; simp
          have y8 : w4.cell? ⟨wr.heap.size, 8, none⟩ = some (.int .i64 x.n) := by rw [r 8 (by omega)]; simp
          obtain ⟨z0, z1, z2⟩ := unhide BX w4 hB40
          have hC4 := counts_kept (unhide hC) (nbox_then hb4)
          have HC4 := hide hC4
          obtain ⟨D, ho4, _, hD⟩ := hC4
          have hkey : keyOf Tryz.prog 9 (.string ⟨x.p.toArray⟩) = some (.string x.p) := by
            have := keyOf_string_mk (P := Tryz.prog) Tryz.underlying9 (s := ⟨x.p.toArray⟩) (by have := unhide SLP; simp only [maxLen, ByteArray.size, List.size_toArray]; omega)
            simpa using this
          obtain ⟨c, hrun, hat, _⟩ := ho4.lookup_int mlaw Tryz.underlying71 Tryz.underlying3 (mzero _) hkey
          have hcc : c = (kidsN t.ns x.p : Int) := by
            rw [hD] at hat
            simpa using hat.symm
          subst hcc
          clear r hat hD ho4 hkey hb4 d0 d1 d2 d3 d4 d5 d6 d7 d8 x0 x1 x2
          have CSX := unhide CSD x (kidsN t.ns x.p) w4 hB4
          unfold statV at CSX
          cases hs : pd (SoundP t.z x (kidsN t.ns x.p) t.ss) with
          | false =>
            have G := hide (unhide NO x k (unhide HX) (fun p => by have := pd_true p.sound; rw [hs] at this; cases this))
            rw [hs] at CSX
            clear hs
            go_wp2_with fail
            refine CSX.mono ?_
            rintro e w5 ⟨rfl, hb5⟩
            have hB5 := nnext hB4 hb5
            clear CSX hrun z0 z1 z2 y0 y2 y3 y4 y5 y6 y7 y8
            go_wp2_with fail
            go_ret
            exact ⟨nret_bool (unhide G).symm, hB5⟩
          | true =>
            have O2 := hide (okg_succ (unhide hO) (unhide HX) ⟨unhide HD, pd_iff.1 (unhide HH), pd_iff.1 hs⟩)
            rw [hs] at CSX
            clear hs
            go_wp2_with fail
            refine CSX.mono ?_
            rintro e w5 ⟨rfl, hb5⟩
            have HB5 := hide (nnext hB40 hb5)
            have HC5 := hide (counts_kept (unhide HC4) hb5)
            clear CSX hrun z0 z1 z2 y0 y2 y3 y4 y5 y6 y7 y8 hb5
            go_wp2_with fail
            go_roundg (t.ns.length - (k + 1))
            case measure => omega
            case rel => exact ⟨k + 1, rfl, by omega, Nat.le_refl _, HB5, HC5, O2⟩
      · have G := hide (unhide NO x k (unhide HX) (fun p => hd p.data))
        go_wp2_with fail
        go_ret
        exact ⟨nret_bool (unhide G).symm, nnext hBw (allocB _ _)⟩
    · obtain rfl : k = t.ns.length := by omega
      have hBw : Below w.heap.size w wr := nnext B0 (unhide hB)
      have d7 := ((unhide H).kept hBw hb).n7 (unhide HR0)
      have G := hide (unhide YES (unhide hO))
      simp only [Nat.zero_mul, Nat.add_zero] at d7
      go_wp2_with fail
      go_ret
      exact ⟨nret_bool ((unhide G).trans (by rfl)).symm, hBw⟩

end Go.Proofs.YtcplpbelficbeaaGreatDoor

namespace Go.Proofs.YtcplpbelficbeaaGreatDoor
open Go.RowKit

theorem GoodT.pwf {t : Tr} (g : GoodT t) : WfT t := by
  refine ⟨fun s hs => by have := g.ses.2 s hs; omega, fun n hn => ?_⟩
  have k := g.nod.ok n hn
  exact ⟨by have := goodB_le k.path; omega, by have := k.data; omega⟩
def getN (t : Tr) (p : List UInt8) : Nd := (lookN t.ns p).getD nzero
def getE (t : Tr) (p : List UInt8) : Int := if (lookN t.ns p).isSome = true then 0 else 7
theorem get_some {t : Tr} {p : List UInt8} {n : Nd} (h : lookN t.ns p = some n) : getN t p = n ∧ getE t p = 0 := by
  rw [getN, getE, h]; exact ⟨rfl, rfl⟩
theorem get_none {t : Tr} {p : List UInt8} (h : lookN t.ns p = none) : getN t p = nzero ∧ getE t p = 7 := by
  rw [getN, getE, h]; exact ⟨rfl, rfl⟩
theorem tget_any (t : Tr) (vn vs : Value) (p : List UInt8) (w : World) (g : GoodT t) (hn : SeqV w vn t.ns) :
    Calls Tryz.prog 26 #[.agg #[.int .i64 t.z, vn, vs], .string ⟨p.toArray⟩] w fun e w' => e = .returned (.tuple #[nodeV (getN t p), .int .i64 (getE t p)]) ∧ Below w.heap.size w w' := by
  have few := g.nod.few
  rcases nwhere p t.ns g.nod.asc with ⟨A, n, B, T⟩ | ⟨A, B, G⟩
  · have hm : n ∈ t.ns := by rw [T.eq]; simp
    have sl := g.pwf.slim n hm
    rw [(get_some T.look).1, (get_some T.look).2]
    exact tget_there t.z vn vs t.ns A B n p w hn (by omega) T sl.1 sl.2
  · rw [(get_none G.look).1, (get_none G.look).2]
    exact tget_gap t.z vn vs t.ns A B p w hn (by omega) G

end Go.Proofs.YtcplpbelficbeaaGreatDoor
