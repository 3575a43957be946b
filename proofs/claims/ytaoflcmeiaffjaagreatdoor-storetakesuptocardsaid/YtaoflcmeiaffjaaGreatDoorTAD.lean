/-
  What tree.counted and tree.Good answer: the walks, with the map of counts.
  A tree as an argument: opened into its nodes and sessions; what its weights say of their lengths.
  Lists of watches and of events, and one watch, as arguments: opened into plain lists; what their weights and their bulk say of their lengths.
  A log as an argument (beside trees): opened into its transactions; what its weights say of their lengths.
  A server as an argument: opened into its parts; what its bulk says of their lengths.
-/
import Derived.Test.YtaoflcmeiaffjaaGreatDoorTAC
import Derived.Test.YtaoflcmeiaffjaaGreatDoorTI
import Derived.Maps.OwnOps
import Derived.Maps.Views
import Derived.Test.YtaoflcmeiaffjaaGreatDoorTAB
import Derived.ProofKit
import Derived.OpenShut
import Derived.SizedLaws
import Derived.Deep.Slices
import Derived.Carry
import Derived.Test.YtaoflcmeiaffjaaGreatDoorTD
import Derived.Test.YtaoflcmeiaffjaaGreatDoorRows
import Derived.Test.YtaoflcmeiaffjaaGreatDoorTM
import Derived.Test.YtaoflcmeiaffjaaGreatDoorTZ
namespace Go.Proofs.YtaoflcmeiaffjaaGreatDoor
open Go.RowKit Go.WideMaps Go.Maps

theorem mlaw : Keyed Tryz.prog 9 := string_keyed Tryz.underlying9
theorem mzero (w : World) : (zeroValue 3).run Tryz.prog w = .ok (.int .i64 0) w := by kernel_rfl

/-- block B is the map of how many of these nodes have each text as their parent -/
def Counts (w : World) (B k : Nat) (ns : List Nd) : Prop :=
  ∃ D : DataW Unit, w.ownsMap Tryz.prog 9 (plainElem Tryz.prog 3) B k D ∧ IsMap D ∧ ∀ s : List UInt8, D.atKey (.string s) (.lit (.int .i64 0)) = .lit (.int .i64 (kidsN ns s))
theorem kidsN_snoc (ns : List Nd) (n : Nd) (s : List UInt8) : kidsN (ns ++ [n]) s = kidsN ns s + (if dirOf n.p = s then 1 else 0) := by
  simp only [kidsN, List.countP_append, List.countP_cons, List.countP_nil, decide_eq_true_eq]; omega
theorem kidsN_le (ns : List Nd) (s : List UInt8) : kidsN ns s ≤ ns.length := List.countP_le_length
theorem counts_step {D : DataW Unit} {ns : List Nd} {n : Nd} (hm : IsMap D) (hD : ∀ s : List UInt8, D.atKey (.string s) (.lit (.int .i64 0)) = .lit (.int .i64 (kidsN ns s))) (s : List UInt8) :
    (D.put (.string (dirOf n.p)) (.lit (.int .i64 (kidsN ns (dirOf n.p) + 1)))).atKey (.string s) (.lit (.int .i64 0)) = .lit (.int .i64 (kidsN (ns ++ [n]) s)) := by
  rw [kidsN_snoc]
  by_cases e : dirOf n.p = s
  · subst e
    rw [atKey_put_same hm (show WideAt.IsKeyLit (.string _) from trivial)]
    simp
  · rw [atKey_put_other (by simpa using fun h => e h.symm), hD, if_neg e]
    simp

set_option maxRecDepth 100000 in
set_option maxHeartbeats 2000000 in
theorem counted_map (b off cap : Nat) (ns : List Nd) (w : World) (hl : ns.length ≤ 400) (hb : b < w.heap.size) (hr : RowAt w b off (cellsL ns)) :
    Calls Tryz.prog 177 #[.slice (some ⟨b, off, none⟩) ns.length cap] w fun e w' => e = .returned (.map (some w.heap.size)) ∧ Counts w' w.heap.size 400 ns ∧ Below w.heap.size w w' := by
  have H := hide hr
  clear hr
  have hmm := @run_makeMap Tryz.prog
  go_enter Tryz.func177, Tryz.ntmps177
  go_wp2_with fail
  go_loopg [12] ns.length (fun kx i wr => ∃ k : Nat, i = .int .i64 k ∧ k ≤ ns.length ∧ ns.length - k ≤ kx ∧ Hid (Counts wr w.heap.size k (ns.take k)) ∧ Hid (Below w.heap.size w wr))
  case atStart => exact ⟨0, rfl, Nat.zero_le _, Nat.le_refl _, hide ⟨_, World.ownsMap_made _ _ _ _, isMap_empty, fun s => by rfl⟩, hide (allocB _ _)⟩
  case round =>
    obtain ⟨k, rfl, hk, hg, hC, hB⟩ := hrel
    by_cases hlt : k < ns.length
    · obtain ⟨x, hx⟩ : ∃ x, ns[k]? = some x := ⟨_, List.getElem?_eq_getElem hlt⟩
      have q := (unhide H).kept (unhide hB) hb
      have d0 := q.n0 hx
      have d1 := q.n1 hx
      have d2 := q.n2 hx
      have d3 := q.n3 hx
      have d4 := q.n4 hx
      have d5 := q.n5 hx
      have d6 := q.n6 hx
      have d7 := q.n7 hx
      have d8 := q.n8 hx
      have hbw : b < wr.heap.size := Nat.lt_of_lt_of_le hb (unhide hB).size
      have hts : ns.take (k + 1) = ns.take k ++ [x] := by rw [List.take_add_one, hx]; rfl
      have HT := hide hts
      clear q hx hts
      have CS := fun W => split_any x.p W
      have hdl : (dirOf x.p).length ≤ 1000 := by
        cases hgb : goodB x.p with
        | false => rw [dirOf_bad hgb]; simp
        | true =>
          by_cases hr : x.p = [47]
          · rw [hr, dirOf_root]; simp
          · obtain ⟨a, c, he, hc⟩ := good_cut hgb
            have := goodB_le hgb
            rw [he] at hgb hr this ⊢
            rw [dirOf_cut hgb hr hc, nupL]
            split
            · simp
            · simp at this; omega
      have HDL := hide hdl
      clear hdl
      obtain ⟨D, ho, hm, hD⟩ := unhide hC
      have HD := hide hD
      have HM := hide hm
      have hc1 := kidsN_le (ns.take k) (dirOf x.p)
      simp only [List.length_take] at hc1
      have STEP := hide (fun s => counts_step (n := x) hm hD s)
      obtain ⟨cn, hcn⟩ : ∃ cn, kidsN (ns.take k) (dirOf x.p) = cn := ⟨_, rfl⟩
      rw [hcn] at hc1
      have HCN := hide hcn
      clear hD hm hcn
      generalize hdp : dirOf x.p = dp at CS HDL
      have HDP := hide hdp
      clear hdp
      generalize stepOf x.p = sp at CS
      generalize splE x.p = ep at CS
      go_wp2_with fail
      refine (CS _).mono ?_
      rintro e w1 ⟨rfl, hb1⟩
      have hB1 : Below w.heap.size w w1 := nnext (unhide hB) (nbox_then hb1)
      have ho1 : w1.ownsMap Tryz.prog 9 (plainElem Tryz.prog 3) w.heap.size k D := by
        have : Below wr.heap.size wr w1 := nbox_then hb1
        obtain ⟨es, cl, h1, h2⟩ := ho
        exact ⟨es, cl, (this.block _ (Array.getElem?_eq_some_iff.1 h1).1).trans h1, h2⟩
      have hkey : keyOf Tryz.prog 9 (.string ⟨dp.toArray⟩) = some (.string dp) := by
        have := keyOf_string_mk (P := Tryz.prog) Tryz.underlying9 (s := ⟨dp.toArray⟩) (by have := unhide HDL; simp only [maxLen, ByteArray.size, List.size_toArray]; omega)
        simpa using this
      obtain ⟨c, hrun, hat, _⟩ := ho1.lookup_int mlaw Tryz.underlying189 Tryz.underlying3 (mzero _) hkey
      have hcc : c = (cn : Int) := by
        rw [unhide HD, ← unhide HDP, unhide HCN] at hat
        simpa using hat.symm
      subst hcc
      clear CS hat hb1 ho d0 d1 d2 d3 d4 d5 d6 d7 d8
      go_wp2_with (first
        | (at_mapUpdate; refine wpList_mapUpdate_own _ rfl _ _ _ 189 rfl 9 3 mlaw Tryz.underlying189 _ w.heap.size k _ rfl ho1 (by unfold maxLen; omega) _ _ _ rfl rfl hkey _ [] (plainElem_int Tryz.underlying3 (WalkArith.wf_i64 (by omega))) ?_)
        | fail)
      intro w2 hown1 hgrow1
      have B2 := hB1.grown hgrow1 hB1.size (fun j hj => by cases hj; exact Nat.le_refl _)
      have C2 : Counts w2 w.heap.size (k + 1) (ns.take (k + 1)) := by
        refine ⟨_, hown1, (unhide HM).put _ _, fun s => ?_⟩
        rw [unhide HT, ← unhide STEP s, unhide HCN, unhide HDP]
      have HC2 := hide C2
      have HB2 := hide B2
      clear C2 B2 hown1 hgrow1 ho1 hrun hB1
      go_wp2_with fail
      go_roundg (ns.length - (k + 1))
      case measure => omega
      case rel => exact ⟨k + 1, rfl, by omega, Nat.le_refl _, HC2, HB2⟩
    · obtain rfl : k = ns.length := by omega
      go_wp2_with fail
      go_ret
      obtain ⟨D, ho, hm, hD⟩ := unhide hC
      exact ⟨rfl, ⟨D, ho.mono (by omega), hm, fun s => by rw [hD, List.take_length]⟩, unhide hB⟩

/-- numbers and texts as great as a machine has them -/
structure WfT (t : Tr) : Prop where
  ses : ∀ s ∈ t.ss, -9223372036854775808 ≤ s ∧ s ≤ 9223372036854775807
  slim : ∀ n ∈ t.ns, n.p.length ≤ 140737488355328 ∧ n.d.length ≤ 140737488355328
def OkG (t : Tr) (k : Nat) : Prop := ∀ i, i < k → ∀ n, t.ns[i]? = some n → PartP t.z t.ns t.ss n
theorem okg_succ {t : Tr} {k : Nat} (h : OkG t k) {n : Nd} (hn : t.ns[k]? = some n) (hp : PartP t.z t.ns t.ss n) : OkG t (k + 1) := by
  intro i hi m hm
  by_cases e : i = k
  · subst e; rw [hn] at hm; cases hm; exact hp
  · exact h i (by omega) m hm
theorem good_yes {t : Tr} (hz : zGood t.z = true) (ho : OrdN t.ns) (hs : SAsc t.ss) (h : OkG t t.ns.length) {r : Nd} (hr : t.ns[0]? = some r) : goodT t = decide (r.o = 0) := by
  by_cases h0 : r.o = 0
  · rw [decide_eq_true h0, goodT_true, good_parts]
    refine ⟨hz, ho, hs, fun n hn => ?_, fun r' h => by rw [hr] at h; cases h; exact h0⟩
    obtain ⟨i, hi, rfl⟩ := List.getElem_of_mem hn
    exact h i hi _ (List.getElem?_eq_getElem hi)
  · rw [decide_eq_false h0, goodT_false, good_parts]
    exact fun g => h0 (g.2.2.2.2 r hr)
theorem good_no {t : Tr} (h : ¬ (zGood t.z = true ∧ OrdN t.ns ∧ SAsc t.ss)) : goodT t = false := by
  rw [goodT_false, good_parts]; exact fun g => h ⟨g.1, g.2.1, g.2.2.1⟩
theorem good_node {t : Tr} {n : Nd} {k : Nat} (hn : t.ns[k]? = some n) (h : ¬ PartP t.z t.ns t.ss n) : goodT t = false := by
  rw [goodT_false, good_parts]; exact fun g => h (g.2.2.2.1 n (List.mem_of_getElem? hn))
theorem counts_kept {w w' : World} {B k : Nat} {ns : List Nd} (h : Counts w B k ns) (hb : Below w.heap.size w w') : Counts w' B k ns := by
  obtain ⟨D, ⟨es, cl, h1, h2⟩, h3⟩ := h
  exact ⟨D, ⟨es, cl, (hb.block _ (Array.getElem?_eq_some_iff.1 h1).1).trans h1, h2⟩, h3⟩

set_option maxRecDepth 100000 in
set_option maxHeartbeats 4000000 in
theorem tgood_main (t : Tr) (vn vs : Value) (w : World) (hn : SeqV w vn t.ns) (hs : SeqV w vs t.ss) (hw : WfT t) (hz : zGood t.z = true) (ho : OrdN t.ns) (ha : SAsc t.ss) :
    Calls Tryz.prog 146 #[.agg #[.int .i64 t.z, vn, vs]] w fun e w' => e = .returned (.bool (goodT t)) ∧ Below w.heap.size w w' := by
  have hne : t.ns ≠ [] := by obtain ⟨r, rest, h, _⟩ := ho.root; rw [h]; simp
  obtain ⟨r0, hr0⟩ : ∃ r0, t.ns[0]? = some r0 := by obtain ⟨r, rest, h, _⟩ := ho.root; exact ⟨r, by rw [h]; rfl⟩
  have YES := hide (fun h => good_yes hz ho ha h hr0)
  have NO := hide (fun n k h1 h2 => good_node (t := t) (n := n) (k := k) h1 h2)
  have CZ := fun W => zgood_any t.z W
  rw [hz] at CZ
  have CO := hide (fun W (h : Below w.heap.size w W) => ordered_any vn t.ns W (hn.next h))
  have CN := hide (fun W (h : Below w.heap.size w W) => numbered_any vs t.ss W (hs.next h) hw.ses)
  simp only [pd_true ho] at CO
  simp only [pd_true ha] at CN
  have CH := hide (fun p W (h : Below w.heap.size w W) => held_any vn t.ns p W (hn.next h) ho)
  have CSD := hide (fun n k W (h : Below w.heap.size w W) => sound_any t.z vn vs n k t.ss W (hs.next h) ha)
  have hl := ho.few
  have SL := hide hw.slim
  obtain ⟨sa, sc, rfl⟩ := seq_slice hs
  obtain ⟨b, off, cap, rfl, hb, hr, hle, hcm⟩ := seq_row hn hne
  have H := hide hr
  have CC := hide (fun W (h : Below w.heap.size w W) => counted_map b off cap t.ns W hl (Nat.lt_of_lt_of_le hb h.size) (hr.kept h hb))
  have HR0 := hide hr0
  have hpos : 0 < t.ns.length := List.length_pos_iff.2 hne
  clear hn hs hw hz ho ha hne hr hr0
  generalize goodT t = fin at YES NO ⊢
  go_enter Tryz.func146, Tryz.ntmps146
  go_wp2_with fail
  refine (CZ _).mono ?_
  rintro e w0 ⟨rfl, rfl⟩
  have B0 := allocB w (.cells #[.int .i64 t.z, .slice (some ⟨b, off, none⟩) t.ns.length cap, .slice sa t.ss.length sc] 31)
  generalize hW0 : w.alloc (.cells #[.int .i64 t.z, .slice (some ⟨b, off, none⟩) t.ns.length cap, .slice sa t.ss.length sc] 31) = W0 at *
  have b0 : W0.cell? ⟨w.heap.size, 0, none⟩ = some (.int .i64 t.z) := by rw [← hW0]; simp
  have b1 : W0.cell? ⟨w.heap.size, 1, none⟩ = some (.slice (some ⟨b, off, none⟩) t.ns.length cap) := by rw [← hW0]; simp
  have b2 : W0.cell? ⟨w.heap.size, 2, none⟩ = some (.slice sa t.ss.length sc) := by rw [← hW0]; simp
  have hsz : w.heap.size < W0.heap.size := by rw [← hW0]; simp
  have BX := hide (fun W (h : Below W0.heap.size W0 W) => (⟨(h.cell (p := ⟨w.heap.size, 0, none⟩) hsz).trans b0, (h.cell (p := ⟨w.heap.size, 1, none⟩) hsz).trans b1, (h.cell (p := ⟨w.heap.size, 2, none⟩) hsz).trans b2⟩ : W.cell? ⟨w.heap.size, 0, none⟩ = some (.int .i64 t.z) ∧ W.cell? ⟨w.heap.size, 1, none⟩ = some (.slice (some ⟨b, off, none⟩) t.ns.length cap) ∧ W.cell? ⟨w.heap.size, 2, none⟩ = some (.slice sa t.ss.length sc)))
  clear hW0
  go_wp2_with fail
  refine (unhide CO _ B0).mono ?_
  rintro e w1 ⟨rfl, hb1⟩
  obtain ⟨c0, c1, c2⟩ := unhide BX w1 hb1
  clear b0 b1 b2
  go_wp2_with fail
  refine (unhide CN _ (nnext B0 hb1)).mono ?_
  rintro e w2 ⟨rfl, rfl⟩
  go_wp2_with fail
  refine (unhide CC _ (nnext B0 hb1)).mono ?_
  rintro e w3 ⟨rfl, hC3, hb3⟩
  have hb3' := nnext hb1 hb3
  obtain ⟨d0, d1, d2⟩ := unhide BX w3 hb3'
  have HC := hide hC3
  clear c0 c1 c2 CO CN CC CZ hC3
  go_wp2_with fail
  go_loopg [28] t.ns.length (fun kx i wr => ∃ k : Nat, i = .int .i64 k ∧ k ≤ t.ns.length ∧ t.ns.length - k ≤ kx ∧ Hid (Below W0.heap.size W0 wr) ∧ Hid (Counts wr w2.heap.size 400 t.ns) ∧ Hid (OkG t k))
  case atStart => exact ⟨0, rfl, Nat.zero_le _, Nat.le_refl _, hide hb3', HC, hide (fun i hi => absurd hi (Nat.not_lt_zero _))⟩
  case round =>
    obtain ⟨k, rfl, hk, hg, hB, hC, hO⟩ := hrel
    obtain ⟨x0, x1, x2⟩ := unhide BX wr (unhide hB)
    clear d0 d1 d2
    by_cases hlt : k < t.ns.length
    · obtain ⟨x, hx⟩ : ∃ x, t.ns[k]? = some x := ⟨_, List.getElem?_eq_getElem hlt⟩
      have hBw : Below w.heap.size w wr := nnext B0 (unhide hB)
      have q := (unhide H).kept hBw hb
      have d0 := q.n0 hx
      have d1 := q.n1 hx
      have d2 := q.n2 hx
      have d3 := q.n3 hx
      have d4 := q.n4 hx
      have d5 := q.n5 hx
      have d6 := q.n6 hx
      have d7 := q.n7 hx
      have d8 := q.n8 hx
      have hbw : b < wr.heap.size := Nat.lt_of_lt_of_le hb hBw.size
      have hww : w.heap.size < wr.heap.size := Nat.lt_of_lt_of_le hsz (unhide hB).size
      have sl := unhide SL x (List.mem_of_getElem? hx)
      have sld := sl.2
      have HX := hide hx
      have SLP := hide sl.1
      clear q hx sl
      by_cases hd : x.d.length ≤ 256
      · have HD := hide hd
        cases hh : pd (HeldP t.ns x.p) with
        | false =>
          have G := hide (unhide NO x k (unhide HX) (fun p => by have := pd_true p.held; rw [hh] at this; cases this))
          go_wp2_with fail
          refine (unhide CH x.p _ (nnext hBw (allocB _ _))).mono ?_
          rintro e w4 ⟨rfl, hb4⟩
          have hB4 := nnext hBw (nbox_then hb4)
          rw [hh]
          clear hb4 d0 d1 d2 d3 d4 d5 d6 d7 d8 x0 x1 x2
          go_wp2_with fail
          go_ret
          exact ⟨nret_bool (unhide G).symm, hB4⟩
        | true =>
          have HH := hide hh
          go_wp2_with fail
          refine (unhide CH x.p _ (nnext hBw (allocB _ _))).mono ?_
          rintro e w4 ⟨rfl, hb4⟩
          have hB4 := nnext hBw (nbox_then hb4)
          have hB40 := nnext (unhide hB) (nbox_then hb4)
          rw [hh]
          clear hh
          have r := fun (j : Nat) (hj : j < 9) => hb4.cell (p := ⟨wr.heap.size, j, none⟩) (by simp)
          have y0 : w4.cell? ⟨wr.heap.size, 0, none⟩ = some (.string ⟨x.p.toArray⟩) := by rw [r 0 (by omega)]; simp
          have y2 : w4.cell? ⟨wr.heap.size, 2, none⟩ = some (.int .i64 x.c) := by rw [r 2 (by omega)]; simp
          have y3 : w4.cell? ⟨wr.heap.size, 3, none⟩ = some (.int .i64 x.m) := by rw [r 3 (by omega)]; simp
          have y4 : w4.cell? ⟨wr.heap.size, 4, none⟩ = some (.int .i64 x.q) := by rw [r 4 (by omega)]; simp
          have y5 : w4.cell? ⟨wr.heap.size, 5, none⟩ = some (.int .i64 x.v) := by rw [r 5 (by omega)]; simp
          have y6 : w4.cell? ⟨wr.heap.size, 6, none⟩ = some (.int .i64 x.k) := by rw [r 6 (by omega)]; simp
          have y7 : w4.cell? ⟨wr.heap.size, 7, none⟩ = some (.int .i64 x.o) := by rw [r 7 (by omega)]; simp
          have y8 : w4.cell? ⟨wr.heap.size, 8, none⟩ = some (.int .i64 x.n) := by rw [r 8 (by omega)]; simp
          obtain ⟨z0, z1, z2⟩ := unhide BX w4 hB40
          have hC4 := counts_kept (unhide hC) (nbox_then hb4)
          have HC4 := hide hC4
          obtain ⟨D, ho4, _, hD⟩ := hC4
          have hkey : keyOf Tryz.prog 9 (.string ⟨x.p.toArray⟩) = some (.string x.p) := by
            have := keyOf_string_mk (P := Tryz.prog) Tryz.underlying9 (s := ⟨x.p.toArray⟩) (by have := unhide SLP; simp only [maxLen, ByteArray.size, List.size_toArray]; omega)
            simpa using this
          obtain ⟨c, hrun, hat, _⟩ := ho4.lookup_int mlaw Tryz.underlying189 Tryz.underlying3 (mzero _) hkey
          have hcc : c = (kidsN t.ns x.p : Int) := by
            rw [hD] at hat
            simpa using hat.symm
          subst hcc
          clear r hat hD ho4 hkey hb4 d0 d1 d2 d3 d4 d5 d6 d7 d8 x0 x1 x2
          have CSX := unhide CSD x (kidsN t.ns x.p) w4 hB4
          unfold statV at CSX
          cases hs : pd (SoundP t.z x (kidsN t.ns x.p) t.ss) with
          | false =>
            have G := hide (unhide NO x k (unhide HX) (fun p => by have := pd_true p.sound; rw [hs] at this; cases this))
            rw [hs] at CSX
            clear hs
            go_wp2_with fail
            refine CSX.mono ?_
            rintro e w5 ⟨rfl, hb5⟩
            have hB5 := nnext hB4 hb5
            clear CSX hrun z0 z1 z2 y0 y2 y3 y4 y5 y6 y7 y8
            go_wp2_with fail
            go_ret
            exact ⟨nret_bool (unhide G).symm, hB5⟩
          | true =>
            have O2 := hide (okg_succ (unhide hO) (unhide HX) ⟨unhide HD, pd_iff.1 (unhide HH), pd_iff.1 hs⟩)
            rw [hs] at CSX
            clear hs
            go_wp2_with fail
            refine CSX.mono ?_
            rintro e w5 ⟨rfl, hb5⟩
            have HB5 := hide (nnext hB40 hb5)
            have HC5 := hide (counts_kept (unhide HC4) hb5)
            clear CSX hrun z0 z1 z2 y0 y2 y3 y4 y5 y6 y7 y8 hb5
            go_wp2_with fail
            go_roundg (t.ns.length - (k + 1))
            case measure => omega
            case rel => exact ⟨k + 1, rfl, by omega, Nat.le_refl _, HB5, HC5, O2⟩
      · have G := hide (unhide NO x k (unhide HX) (fun p => hd p.data))
        go_wp2_with fail
        go_ret
        exact ⟨nret_bool (unhide G).symm, nnext hBw (allocB _ _)⟩
    · obtain rfl : k = t.ns.length := by omega
      have hBw : Below w.heap.size w wr := nnext B0 (unhide hB)
      have d7 := ((unhide H).kept hBw hb).n7 (unhide HR0)
      have G := hide (unhide YES (unhide hO))
      simp only [Nat.zero_mul, Nat.add_zero] at d7
      go_wp2_with fail
      go_ret
      exact ⟨nret_bool ((unhide G).trans (by rfl)).symm, hBw⟩

end Go.Proofs.YtaoflcmeiaffjaaGreatDoor

namespace Go.Proofs.YtaoflcmeiaffjaaGreatDoor
open Go.ChangeShapes Go.WideShapes Go.ChangeAt Go.RowKit Go.ChangeMaps

theorem ncellsStr : Tryz.prog.cellsOf 9 = 1 := by kernel_rfl
theorem ncellsInt : Tryz.prog.cellsOf 3 = 1 := by kernel_rfl
theorem ncellsNode : Tryz.prog.cellsOf 97 = 9 := by kernel_rfl
theorem ncellsStat : Tryz.prog.cellsOf 95 = 7 := by kernel_rfl
theorem ncellsNs : Tryz.prog.cellsOf 28 = 1 := by kernel_rfl
theorem ncellsIs : Tryz.prog.cellsOf 29 = 1 := by kernel_rfl
theorem ncellsTree : Tryz.prog.cellsOf 31 = 3 := by kernel_rfl
theorem nbytesNode : Tryz.prog.bytesOf 97 = 88 := by kernel_rfl
theorem nbytesInt : Tryz.prog.bytesOf 3 = 8 := by kernel_rfl
theorem nlaidOut : laidOutB Tryz.prog = true := by kernel_rfl
theorem nlist_of (s : ByteArray) : ∃ l : List UInt8, s = ⟨l.toArray⟩ := ⟨s.data.toList, rfl⟩

section
variable {H : Type} {enc : TypeId × Value → H} {W : World} {base : Nat} {spare : Nat → Bool} {held : Bool}
def nodeD (n : Nd) : DataW H := .agg [.lit (.string n.p), .lit (.string n.d), .agg [.lit (.int .i64 n.c), .lit (.int .i64 n.m), .lit (.int .i64 n.q), .lit (.int .i64 n.v), .lit (.int .i64 n.k), .lit (.int .i64 n.o), .lit (.int .i64 n.n)]]
set_option maxRecDepth 10000 in
theorem open_stat {n : Nat} {cs : List Value} {x : DataW H × List MemPlace} (hl : cs.length = 7) (h : DataW.trod enc Tryz.prog W base spare held n 95 cs = some x) :
    ∃ i0 i1 i2 i3 i4 i5 i6 : Int, cs = [.int .i64 i0, .int .i64 i1, .int .i64 i2, .int .i64 i3, .int .i64 i4, .int .i64 i5, .int .i64 i6] ∧ x.1 = .agg [.lit (.int .i64 i0), .lit (.int .i64 i1), .lit (.int .i64 i2), .lit (.int .i64 i3), .lit (.int .i64 i4), .lit (.int .i64 i5), .lit (.int .i64 i6)] := by
  match cs, hl with
  | [c0, c1, c2, c3, c4, c5, c6], _ =>
    obtain ⟨xs, k, _, hx, _, hlen, hfs⟩ := DataW.trod_struct Tryz.underlying95 h
    match xs, hlen with
    | [y0, y1, y2, y3, y4, y5, y6], _ =>
      obtain ⟨i0, e0, rfl, _⟩ := DataW.trod_int Tryz.underlying3 (show DataW.trod enc Tryz.prog W base spare held k 3 [c0] = some y0 by simpa [ncellsInt] using hfs 0 _ rfl)
      obtain ⟨i1, e1, rfl, _⟩ := DataW.trod_int Tryz.underlying3 (show DataW.trod enc Tryz.prog W base spare held k 3 [c1] = some y1 by simpa [ncellsInt] using hfs 1 _ rfl)
      obtain ⟨i2, e2, rfl, _⟩ := DataW.trod_int Tryz.underlying3 (show DataW.trod enc Tryz.prog W base spare held k 3 [c2] = some y2 by simpa [ncellsInt] using hfs 2 _ rfl)
      obtain ⟨i3, e3, rfl, _⟩ := DataW.trod_int Tryz.underlying3 (show DataW.trod enc Tryz.prog W base spare held k 3 [c3] = some y3 by simpa [ncellsInt] using hfs 3 _ rfl)
      obtain ⟨i4, e4, rfl, _⟩ := DataW.trod_int Tryz.underlying3 (show DataW.trod enc Tryz.prog W base spare held k 3 [c4] = some y4 by simpa [ncellsInt] using hfs 4 _ rfl)
      obtain ⟨i5, e5, rfl, _⟩ := DataW.trod_int Tryz.underlying3 (show DataW.trod enc Tryz.prog W base spare held k 3 [c5] = some y5 by simpa [ncellsInt] using hfs 5 _ rfl)
      obtain ⟨i6, e6, rfl, _⟩ := DataW.trod_int Tryz.underlying3 (show DataW.trod enc Tryz.prog W base spare held k 3 [c6] = some y6 by simpa [ncellsInt] using hfs 6 _ rfl)
      simp only [List.cons.injEq, and_true] at e0 e1 e2 e3 e4 e5 e6
      subst e0 e1 e2 e3 e4 e5 e6
      subst hx
      exact ⟨i0, i1, i2, i3, i4, i5, i6, rfl, rfl⟩
set_option maxRecDepth 10000 in
theorem open_node {n : Nat} {cs : List Value} {x : DataW H × List MemPlace} (hl : cs.length = 9) (h : DataW.trod enc Tryz.prog W base spare held n 97 cs = some x) : ∃ f : Nd, cs = ncells f ∧ x.1 = nodeD f := by
  match cs, hl with
  | [c0, c1, c2, c3, c4, c5, c6, c7, c8], _ =>
    obtain ⟨xs, k, _, hx, _, hlen, hfs⟩ := DataW.trod_struct Tryz.underlying97 h
    match xs, hlen with
    | [y0, y1, y2], _ =>
      obtain ⟨s0, e0, rfl, _⟩ := DataW.trod_string Tryz.underlying9 (show DataW.trod enc Tryz.prog W base spare held k 9 [c0] = some y0 by simpa [ncellsStr] using hfs 0 _ rfl)
      obtain ⟨s1, e1, rfl, _⟩ := DataW.trod_string Tryz.underlying9 (show DataW.trod enc Tryz.prog W base spare held k 9 [c1] = some y1 by simpa [ncellsStr] using hfs 1 _ rfl)
      obtain ⟨i0, i1, i2, i3, i4, i5, i6, e2, hy⟩ := open_stat (cs := [c2, c3, c4, c5, c6, c7, c8]) rfl (show DataW.trod enc Tryz.prog W base spare held k 95 [c2, c3, c4, c5, c6, c7, c8] = some y2 by simpa [ncellsStr, ncellsStat] using hfs 2 _ rfl)
      simp only [List.cons.injEq, and_true] at e0 e1 e2
      obtain ⟨rfl, rfl, rfl, rfl, rfl, rfl, rfl⟩ := e2
      subst e0 e1
      obtain ⟨l0, rfl⟩ := nlist_of s0
      obtain ⟨l1, rfl⟩ := nlist_of s1
      subst hx
      refine ⟨⟨l0, l1, i0, i1, i2, i3, i4, i5, i6⟩, rfl, ?_⟩
      simp [nodeD, hy]
theorem weights_node (n : Nd) : DataW.weights Tryz.prog 97 (nodeD n : DataW H) = [n.p.length, n.d.length] := by
  simp [DataW.weights, nodeD, Tryz.underlying97, Tryz.underlying95, DataW.weightsEach]
theorem nweightsAll_mem {e : TypeId} : ∀ (l : List (DataW H)) (d : DataW H) (x : Nat), d ∈ l → x ∈ DataW.weights Tryz.prog e d → x ∈ DataW.weightsAll Tryz.prog e l
  | d' :: r, d, x, h, hx => by
    rw [DataW.weightsAll]
    rcases List.mem_cons.1 h with rfl | h
    · exact List.mem_append.2 (.inl hx)
    · exact List.mem_append.2 (.inr (nweightsAll_mem r d x h hx))
set_option maxRecDepth 10000 in
theorem open_nodes {fuel : Nat} {v : Value} {y : DataW H × List MemPlace} (h : DataW.trod enc Tryz.prog W base spare held fuel 28 [v] = some y) :
    ∃ xs : List Nd, SeqV W v xs ∧ ∀ M, (∀ x ∈ DataW.weights Tryz.prog 28 y.1, x ≤ M) → (∀ f ∈ xs, f.p.length ≤ M ∧ f.d.length ≤ M) ∧ xs.length * 88 ≤ M := by
  rcases Go.Deep.open_slice Tryz.underlying28 h with ⟨h1, hx⟩ | ⟨a, len, cap, m, k, D, Pl, h1, hb, hl, hm, hmm, hx, hel⟩
  · simp only [List.cons.injEq, and_true] at h1
    rw [h1]
    exact ⟨[], SeqV.nil W, fun M _ => ⟨by simp, by simp⟩⟩
  · simp only [List.cons.injEq, and_true] at h1
    rw [h1]
    subst hx
    have hlm : len ≤ m := by rw [hmm]; split <;> omega
    have each : ∀ i, i < len → ∃ f : Nd, (∀ c, c < 9 → W.cell? (a.add (i * 9 + c)) = (Lay.cs f)[c]?) ∧ D i = nodeD f := by
      intro i hi
      obtain ⟨cs', g1, g2⟩ := hel i (by omega)
      rw [ncellsNode] at g1
      obtain ⟨_, hlen, hcell⟩ := World.cells?_some g1
      obtain ⟨f, rfl, hd⟩ := open_node hlen g2
      refine ⟨f, fun c hc => ?_, hd⟩
      have := hcell c hc
      rwa [Go.Deep.add_add] at this
    obtain ⟨F, hF⟩ := Go.Deep.choose_lt each
    refine ⟨(List.range len).map F, ?_, ?_⟩
    · by_cases h0 : len = 0
      · subst h0
        exact .inl ⟨some a, cap, rfl, rfl, hm⟩
      · have c0 := (hF 0 (by omega)).1 0 (by decide)
        obtain ⟨b, off, sp⟩ := a
        have hsp : sp = none := by
          cases sp with
          | none => rfl
          | some s => simp [World.cell?, Addr.add, Lay.cs, ncells] at c0; split at c0 <;> simp at c0
        subst hsp
        have hblt : b < W.heap.size := World.block_lt_of_cell? W _ (show W.cell? ((⟨b, off, none⟩ : Addr).add (0 * 9 + 0)) = some _ from c0) |> fun h => by simpa [Addr.add] using h
        refine .inr ⟨b, off, cap, by simp, by simpa using hl, hm, hblt, by simp; omega, fun j u hj => ?_⟩
        have hjl : j < len * 9 := by
          have := (List.getElem?_eq_some_iff.1 hj).1
          rw [cellsL_length, List.length_map, List.length_range] at this
          exact this
        have hi : j / 9 < len := by omega
        have hg := cellsL_get ((List.range len).map F) (j / 9) (F (j / 9)) (by rw [List.getElem?_map, List.getElem?_range hi]; rfl) (j % 9) (by show j % 9 < 9; omega)
        rw [show j / 9 * Lay.k Nd + j % 9 = j by show j / 9 * 9 + j % 9 = j; omega, hj] at hg
        have := (hF (j / 9) hi).1 (j % 9) (by omega)
        rw [show j / 9 * 9 + j % 9 = j by omega, Addr.add_lit, ← hg] at this
        exact this
    · intro M hM
      have hw : DataW.weights Tryz.prog 28 (.slice ((List.range len).map D) ((List.range (m - len)).map fun j => D (len + j)) : DataW H) =
          (len + (m - len)) * 88 :: (DataW.weightsAll Tryz.prog 97 ((List.range len).map D) ++ DataW.weightsAll Tryz.prog 97 ((List.range (m - len)).map fun j => D (len + j))) := by
        simp [DataW.weights, Tryz.underlying28, nbytesNode]
      rw [hw] at hM
      refine ⟨fun f hf => ?_, ?_⟩
      · obtain ⟨i, hi, rfl⟩ := List.mem_map.1 hf
        have hi' : i < len := by simpa using hi
        have key : ∀ x ∈ DataW.weights Tryz.prog 97 (D i), x ≤ M := fun x hx => hM x (List.mem_cons_of_mem _ (List.mem_append.2 (.inl (nweightsAll_mem _ (D i) x (List.mem_map.2 ⟨i, hi, rfl⟩) hx))))
        rw [(hF i hi').2, weights_node] at key
        exact ⟨key _ (by simp), key _ (by simp)⟩
      · have := hM _ (List.mem_cons_self ..)
        simp only [List.length_map, List.length_range]
        omega
set_option maxRecDepth 10000 in
theorem open_ints {fuel : Nat} {v : Value} {y : DataW H × List MemPlace} (h : DataW.trod enc Tryz.prog W base spare held fuel 29 [v] = some y) :
    ∃ xs : List Int, SeqV W v xs ∧ (∀ s ∈ xs, -9223372036854775808 ≤ s ∧ s ≤ 9223372036854775807) ∧ ∀ M, (∀ x ∈ DataW.weights Tryz.prog 29 y.1, x ≤ M) → xs.length * 8 ≤ M := by
  rcases Go.Deep.open_slice Tryz.underlying29 h with ⟨h1, hx⟩ | ⟨a, len, cap, m, k, D, Pl, h1, hb, hl, hm, hmm, hx, hel⟩
  · simp only [List.cons.injEq, and_true] at h1
    rw [h1]
    exact ⟨[], SeqV.nil W, by simp, fun M _ => by simp⟩
  · simp only [List.cons.injEq, and_true] at h1
    rw [h1]
    subst hx
    have hlm : len ≤ m := by rw [hmm]; split <;> omega
    have each : ∀ i, i < len → ∃ f : Int, (∀ c, c < 1 → W.cell? (a.add (i * 1 + c)) = (Lay.cs f)[c]?) ∧ (-9223372036854775808 ≤ f ∧ f ≤ 9223372036854775807) := by
      intro i hi
      obtain ⟨cs', g1, g2⟩ := hel i (by omega)
      rw [ncellsInt] at g1
      obtain ⟨_, hlen, hcell⟩ := World.cells?_some g1
      obtain ⟨c0, rfl⟩ : ∃ c0, cs' = [c0] := List.length_eq_one_iff.1 hlen
      obtain ⟨f, e0, _, hw⟩ := DataW.trod_int Tryz.underlying3 g2
      have hd := bounds_i64 hw
      simp only [List.cons.injEq, and_true] at e0
      subst e0
      refine ⟨f, fun c hc => ?_, hd⟩
      have := hcell c hc
      rwa [Go.Deep.add_add] at this
    obtain ⟨F, hF⟩ := Go.Deep.choose_lt each
    refine ⟨(List.range len).map F, ?_, ?_, ?_⟩
    · by_cases h0 : len = 0
      · subst h0
        exact .inl ⟨some a, cap, rfl, rfl, hm⟩
      · have c0 := (hF 0 (by omega)).1 0 (by decide)
        obtain ⟨b, off, sp⟩ := a
        have hsp : sp = none := by
          cases sp with
          | none => rfl
          | some s => simp [World.cell?, Addr.add, Lay.cs] at c0; split at c0 <;> simp at c0
        subst hsp
        have hblt : b < W.heap.size := World.block_lt_of_cell? W _ (show W.cell? ((⟨b, off, none⟩ : Addr).add (0 * 1 + 0)) = some _ from c0) |> fun h => by simpa [Addr.add] using h
        refine .inr ⟨b, off, cap, by simp, by simpa using hl, hm, hblt, by simp; omega, fun j u hj => ?_⟩
        have hjl : j < len * 1 := by
          have := (List.getElem?_eq_some_iff.1 hj).1
          rw [cellsL_length, List.length_map, List.length_range] at this
          exact this
        have hi : j / 1 < len := by omega
        have hg := cellsL_get ((List.range len).map F) (j / 1) (F (j / 1)) (by rw [List.getElem?_map, List.getElem?_range hi]; rfl) (j % 1) (by show j % 1 < 1; omega)
        rw [show j / 1 * Lay.k Int + j % 1 = j by show j / 1 * 1 + j % 1 = j; omega, hj] at hg
        have := (hF (j / 1) hi).1 (j % 1) (by omega)
        rw [show j / 1 * 1 + j % 1 = j by omega, Addr.add_lit, ← hg] at this
        exact this
    · intro s hs
      obtain ⟨i, hi, rfl⟩ := List.mem_map.1 hs
      exact (hF i (by simpa using hi)).2
    · intro M hM
      have hw : DataW.weights Tryz.prog 29 (.slice ((List.range len).map D) ((List.range (m - len)).map fun j => D (len + j)) : DataW H) =
          (len + (m - len)) * 8 :: (DataW.weightsAll Tryz.prog 3 ((List.range len).map D) ++ DataW.weightsAll Tryz.prog 3 ((List.range (m - len)).map fun j => D (len + j))) := by
        simp [DataW.weights, Tryz.underlying29, nbytesInt]
      rw [hw] at hM
      have := hM _ (List.mem_cons_self ..)
      simp only [List.length_map, List.length_range]
      omega
set_option maxRecDepth 10000 in
theorem open_tree {r : Reach} {b0 : Nat} {v : Value} {d : DataW H} {p : List MemPlace}
    (hv : Value.okWide Tryz.prog W r b0 31 v) (h : DataW.Trod enc Tryz.prog W base spare held 31 v d p) :
    ∃ vn vs t, v = .agg #[.int .i64 t.z, vn, vs] ∧ SeqV W vn t.ns ∧ SeqV W vs t.ss ∧ ∀ M, M ≤ 140737488355328 → (∀ x ∈ DataW.weights Tryz.prog 31 d, x ≤ M) → WfT t ∧ t.ns.length * 88 ≤ M ∧ t.ss.length * 8 ≤ M := by
  obtain ⟨cs, rfl, hsz⟩ := okWide_struct Tryz.underlying31 hv
  have hsz1 : cs.size = 3 := hsz.trans ncellsTree
  obtain ⟨l⟩ := cs
  match l, hsz1 with
  | [c0, c1, c2], _ =>
    obtain ⟨fuel, hf⟩ := h
    have hf' : DataW.trod enc Tryz.prog W base spare held fuel 31 [c0, c1, c2] = some (d, p) := by simpa [Value.cells] using hf
    obtain ⟨xs, k, _, hx, _, hlen, hfs⟩ := DataW.trod_struct Tryz.underlying31 hf'
    match xs, hlen with
    | [y0, y1, y2], _ =>
      obtain ⟨z, e0, rfl, _⟩ := DataW.trod_int Tryz.underlying3 (show DataW.trod enc Tryz.prog W base spare held k 3 [c0] = some y0 by simpa [ncellsInt] using hfs 0 _ rfl)
      obtain ⟨ns, hn, hN⟩ := open_nodes (show DataW.trod enc Tryz.prog W base spare held k 28 [c1] = some y1 by simpa [ncellsInt, ncellsNs] using hfs 1 _ rfl)
      obtain ⟨ss, hs, hb, hS⟩ := open_ints (show DataW.trod enc Tryz.prog W base spare held k 29 [c2] = some y2 by simpa [ncellsInt, ncellsNs, ncellsIs] using hfs 2 _ rfl)
      simp only [List.cons.injEq, and_true] at e0
      subst e0
      simp only [Prod.mk.injEq] at hx
      obtain ⟨rfl, _⟩ := hx
      refine ⟨c1, c2, ⟨z, ns, ss⟩, rfl, hn, hs, fun M hM hw => ?_⟩
      have hww : DataW.weights Tryz.prog 31 (.agg (List.map Prod.fst [(DataW.lit (.int .i64 z), []), y1, y2]) : DataW H) = DataW.weights Tryz.prog 28 y1.1 ++ DataW.weights Tryz.prog 29 y2.1 := by
        simp [DataW.weights, Tryz.underlying31, DataW.weightsEach]
      have hw1 : ∀ x ∈ DataW.weights Tryz.prog 28 y1.1, x ≤ M := fun x hx => hw x (by rw [hww]; exact List.mem_append.2 (.inl hx))
      have hw2 : ∀ x ∈ DataW.weights Tryz.prog 29 y2.1, x ≤ M := fun x hx => hw x (by rw [hww]; exact List.mem_append.2 (.inr hx))
      obtain ⟨h1, h2⟩ := hN M hw1
      exact ⟨⟨hb, fun n hn => by have := h1 n hn; omega⟩, h2, hS M hw2⟩
theorem sized_tree {ts : List TypeId} {ds : List (DataW H)} (h : (DataW.weightsEach Tryz.prog ts ds).all (· ≤ reachBytes) = true) {j : Nat} {d : DataW H} (ht : ts[j]? = some 31) (hd : ds[j]? = some d) : ∀ x ∈ DataW.weights Tryz.prog 31 d, x ≤ 140737488351232 := by
  intro x hx
  have e : reachBytes = 140737488351232 := by decide
  have h1 := List.all_eq_true.1 h _ (DataW.weights_mem_each ht hd x hx)
  rw [e] at h1
  simpa using h1
end
end Go.Proofs.YtaoflcmeiaffjaaGreatDoor

namespace Go.Proofs.YtaoflcmeiaffjaaGreatDoor
open Go.ChangeShapes Go.WideShapes Go.ChangeAt Go.RowKit Go.ChangeMaps

theorem hcellsStr : Tryz.prog.cellsOf 9 = 1 := by kernel_rfl
theorem hcellsInt : Tryz.prog.cellsOf 3 = 1 := by kernel_rfl
theorem hcellsW : Tryz.prog.cellsOf 118 = 3 := by kernel_rfl
theorem hcellsE : Tryz.prog.cellsOf 87 = 2 := by kernel_rfl
theorem hbytesW : Tryz.prog.bytesOf 118 = 32 := by kernel_rfl
theorem hbytesE : Tryz.prog.bytesOf 87 = 24 := by kernel_rfl
theorem hlaidOut : laidOutB Tryz.prog = true := by kernel_rfl
theorem hlist_of (s : ByteArray) : ∃ l : List UInt8, s = ⟨l.toArray⟩ := ⟨s.data.toList, rfl⟩

section
variable {H : Type} {enc : TypeId × Value → H} {W : World} {base : Nat} {spare : Nat → Bool} {held : Bool}
def waD (x : Wa) : DataW H := .agg [.lit (.int .i64 x.s), .lit (.int .i64 x.k), .lit (.string x.p)]
def evD (x : Ev) : DataW H := .agg [.lit (.int .i64 x.k), .lit (.string x.p)]
structure WaOk (t : Wa) : Prop where
  s : (Lit.int .i64 t.s).wf = true
  k : (Lit.int .i64 t.k).wf = true
  p : (ByteArray.mk t.p.toArray).size ≤ maxLen
theorem hopen_w {n : Nat} {cs : List Value} {x : DataW H × List MemPlace} (hl : cs.length = 3) (h : DataW.trod enc Tryz.prog W base spare held n 118 cs = some x) : ∃ f : Wa, cs = wcells f ∧ x = (waD f, []) ∧ WaOk f := by
  match cs, hl with
  | [c0, c1, c2], _ =>
    obtain ⟨xs, k, _, hx, _, hlen, hfs⟩ := DataW.trod_struct Tryz.underlying118 h
    match xs, hlen with
    | [y0, y1, y2], _ =>
      obtain ⟨i0, e0, rfl, w0⟩ := DataW.trod_int Tryz.underlying3 (show DataW.trod enc Tryz.prog W base spare held k 3 [c0] = some y0 by simpa [hcellsInt] using hfs 0 _ rfl)
      obtain ⟨i1, e1, rfl, w1⟩ := DataW.trod_int Tryz.underlying3 (show DataW.trod enc Tryz.prog W base spare held k 3 [c1] = some y1 by simpa [hcellsInt] using hfs 1 _ rfl)
      obtain ⟨s2, e2, rfl, w2⟩ := DataW.trod_string Tryz.underlying9 (show DataW.trod enc Tryz.prog W base spare held k 9 [c2] = some y2 by simpa [hcellsStr] using hfs 2 _ rfl)
      simp only [List.cons.injEq, and_true] at e0 e1 e2
      subst e0 e1 e2
      obtain ⟨l2, rfl⟩ := hlist_of s2
      subst hx
      exact ⟨⟨i0, i1, l2⟩, rfl, rfl, ⟨w0, w1, w2⟩⟩
theorem hopen_e {n : Nat} {cs : List Value} {x : DataW H × List MemPlace} (hl : cs.length = 2) (h : DataW.trod enc Tryz.prog W base spare held n 87 cs = some x) : ∃ f : Ev, cs = ecells f ∧ x.1 = evD f := by
  match cs, hl with
  | [c0, c1], _ =>
    obtain ⟨xs, k, _, hx, _, hlen, hfs⟩ := DataW.trod_struct Tryz.underlying87 h
    match xs, hlen with
    | [y0, y1], _ =>
      obtain ⟨i0, e0, rfl, _⟩ := DataW.trod_int Tryz.underlying3 (show DataW.trod enc Tryz.prog W base spare held k 3 [c0] = some y0 by simpa [hcellsInt] using hfs 0 _ rfl)
      obtain ⟨s1, e1, rfl, _⟩ := DataW.trod_string Tryz.underlying9 (show DataW.trod enc Tryz.prog W base spare held k 9 [c1] = some y1 by simpa [hcellsStr] using hfs 1 _ rfl)
      simp only [List.cons.injEq, and_true] at e0 e1
      subst e0 e1
      obtain ⟨l1, rfl⟩ := hlist_of s1
      subst hx
      exact ⟨⟨i0, l1⟩, rfl, rfl⟩
theorem weights_wa (x : Wa) : DataW.weights Tryz.prog 118 (waD x : DataW H) = [x.p.length] := by
  simp [DataW.weights, waD, Tryz.underlying118, DataW.weightsEach]
theorem weights_ev (x : Ev) : DataW.weights Tryz.prog 87 (evD x : DataW H) = [x.p.length] := by
  simp [DataW.weights, evD, Tryz.underlying87, DataW.weightsEach]
theorem hweightsAll_mem {e : TypeId} : ∀ (l : List (DataW H)) (d : DataW H) (x : Nat), d ∈ l → x ∈ DataW.weights Tryz.prog e d → x ∈ DataW.weightsAll Tryz.prog e l
  | d' :: r, d, x, h, hx => by
    rw [DataW.weightsAll]
    rcases List.mem_cons.1 h with rfl | h
    · exact List.mem_append.2 (.inl hx)
    · exact List.mem_append.2 (.inr (hweightsAll_mem r d x h hx))
theorem bulk_pos (d : DataW H) : 1 ≤ Rows.uptoBulk d := by
  cases d with
  | lit l => cases l <;> simp [Rows.uptoBulk]
  | _ => simp [Rows.uptoBulk]
theorem bulk_len : ∀ l : List (DataW H), l.length ≤ Rows.uptoBulkAll l
  | [] => by simp
  | d :: r => by
    have := bulk_len r
    have := bulk_pos d
    simp only [List.length_cons, Rows.uptoBulkAll]
    omega

set_option maxRecDepth 10000 in
/-- a slice of elements that are laid in a row -/
theorem open_seq {α : Type} [Lay α] (al : α) {T E : TypeId} (hU : Tryz.prog.underlying T = some (.slice E)) (hk : Tryz.prog.cellsOf E = Lay.k α) (hk0 : 0 < Lay.k α) {bytes : Nat} (hby : Tryz.prog.bytesOf E = bytes) (dat : α → DataW H) (len1 : α → Nat)
    (hw : ∀ x, DataW.weights Tryz.prog E (dat x) = [len1 x])
    (ho : ∀ {n : Nat} {cs : List Value} {x : DataW H × List MemPlace}, cs.length = Lay.k α → DataW.trod enc Tryz.prog W base spare held n E cs = some x → ∃ f : α, cs = Lay.cs f ∧ x.1 = dat f)
    {r : Reach} {b0 : Nat} {v : Value} {d : DataW H} {p : List MemPlace}
    (hv : Value.okWide Tryz.prog W r b0 T v) (h : DataW.Trod enc Tryz.prog W base spare held T v d p) :
    ∃ xs : List α, SeqV W v xs ∧ xs.length + 1 ≤ Rows.uptoBulk d ∧ ∀ M, (∀ x ∈ DataW.weights Tryz.prog T d, x ≤ M) → (∀ f ∈ xs, len1 f ≤ M) ∧ xs.length * bytes ≤ M := by
  obtain ⟨fuel, hf⟩ := h
  obtain ⟨sa, sl, sc, rfl⟩ := okWide_slice hU hv
  have hf' : DataW.trod enc Tryz.prog W base spare held fuel T [.slice sa sl sc] = some (d, p) := by simpa [Value.cells] using hf
  clear hf
  rcases Go.Deep.open_slice hU hf' with ⟨h1, hx⟩ | ⟨a, len, cap, m, k, D, Pl, h1, hb, hl, hm, hmm, hx, hel⟩
  · simp only [List.cons.injEq, and_true] at h1
    rw [h1]
    exact ⟨[], SeqV.nil W, by have := bulk_pos d; simpa using this, fun M _ => ⟨by simp, by simp⟩⟩
  · simp only [List.cons.injEq, and_true] at h1
    rw [h1]
    simp only [Prod.mk.injEq] at hx
    obtain ⟨rfl, _⟩ := hx
    have hlm : len ≤ m := by rw [hmm]; split <;> omega
    have each : ∀ i, i < len → ∃ f : α, (∀ c, c < Lay.k α → W.cell? (a.add (i * Lay.k α + c)) = (Lay.cs f)[c]?) ∧ D i = dat f := by
      intro i hi
      obtain ⟨cs', g1, g2⟩ := hel i (by omega)
      rw [hk] at g1
      obtain ⟨_, hlen, hcell⟩ := World.cells?_some g1
      obtain ⟨f, rfl, hd⟩ := ho hlen g2
      refine ⟨f, fun c hc => ?_, hd⟩
      have := hcell c hc
      rwa [Go.Deep.add_add] at this
    have : Inhabited α := ⟨al⟩
    obtain ⟨F, hF⟩ := Go.Deep.choose_lt each
    refine ⟨(List.range len).map F, ?_, ?_, ?_⟩
    · by_cases h0 : len = 0
      · subst h0
        exact .inl ⟨some a, cap, rfl, rfl, hm⟩
      · have c0 := (hF 0 (by omega)).1 0 hk0
        obtain ⟨y, hy⟩ : ∃ y, (Lay.cs (F 0))[0]? = some y := ⟨_, List.getElem?_eq_getElem (by rw [Lay.len]; exact hk0)⟩
        rw [hy] at c0
        obtain ⟨b, off, sp⟩ := a
        have hsp : sp = none := by
          cases sp with
          | none => rfl
          | some s => simp [World.cell?, Addr.add] at c0; split at c0 <;> simp at c0
        subst hsp
        have hblt : b < W.heap.size := World.block_lt_of_cell? W _ (show W.cell? ((⟨b, off, none⟩ : Addr).add (0 * Lay.k α + 0)) = some _ from c0) |> fun h => by simpa [Addr.add] using h
        refine .inr ⟨b, off, cap, by simp, by simpa using hl, hm, hblt, by simp; omega, fun j u hj => ?_⟩
        have hjl : j < len * Lay.k α := by
          have := (List.getElem?_eq_some_iff.1 hj).1
          rw [cellsL_length, List.length_map, List.length_range] at this
          exact this
        have hi : j / Lay.k α < len := Nat.div_lt_of_lt_mul (by rw [Nat.mul_comm]; exact hjl)
        have hm' : j % Lay.k α < Lay.k α := Nat.mod_lt _ hk0
        have hdm : j / Lay.k α * Lay.k α + j % Lay.k α = j := by rw [Nat.mul_comm]; exact Nat.div_add_mod j _
        have hg := cellsL_get ((List.range len).map F) (j / Lay.k α) (F (j / Lay.k α)) (by rw [List.getElem?_map, List.getElem?_range hi]; rfl) (j % Lay.k α) hm'
        rw [hdm, hj] at hg
        have := (hF (j / Lay.k α) hi).1 (j % Lay.k α) hm'
        rw [hdm, Addr.add_lit, ← hg] at this
        exact this
    · have := bulk_len ((List.range len).map D)
      simp only [List.length_map, List.length_range, Rows.uptoBulk] at this ⊢
      omega
    · intro M hM
      have hw' : DataW.weights Tryz.prog T (.slice ((List.range len).map D) ((List.range (m - len)).map fun j => D (len + j)) : DataW H) =
          (len + (m - len)) * bytes :: (DataW.weightsAll Tryz.prog E ((List.range len).map D) ++ DataW.weightsAll Tryz.prog E ((List.range (m - len)).map fun j => D (len + j))) := by
        simp [DataW.weights, hU, hby]
      rw [hw'] at hM
      refine ⟨fun f hf => ?_, ?_⟩
      · obtain ⟨i, hi, rfl⟩ := List.mem_map.1 hf
        have hi' : i < len := by simpa using hi
        have key : ∀ x ∈ DataW.weights Tryz.prog E (D i), x ≤ M := fun x hx => hM x (List.mem_cons_of_mem _ (List.mem_append.2 (.inl (hweightsAll_mem _ (D i) x (List.mem_map.2 ⟨i, hi, rfl⟩) hx))))
        rw [(hF i hi').2, hw] at key
        exact key _ (by simp)
      · have := hM _ (List.mem_cons_self ..)
        simp only [List.length_map, List.length_range]
        exact Nat.le_trans (Nat.mul_le_mul_right _ (by omega)) this
set_option maxRecDepth 10000 in
theorem open_watches {r : Reach} {b0 : Nat} {v : Value} {d : DataW H} {p : List MemPlace} (hv : Value.okWide Tryz.prog W r b0 32 v) (h : DataW.Trod enc Tryz.prog W base spare held 32 v d p) :
    ∃ xs : List Wa, SeqV W v xs ∧ xs.length + 1 ≤ Rows.uptoBulk d ∧ ∀ M, (∀ x ∈ DataW.weights Tryz.prog 32 d, x ≤ M) → (∀ f ∈ xs, f.p.length ≤ M) ∧ xs.length * 32 ≤ M :=
  open_seq (⟨0, 0, []⟩ : Wa) Tryz.underlying32 hcellsW (by decide) hbytesW waD (fun f => f.p.length) weights_wa (fun hl h => by obtain ⟨f, h1, h2, _⟩ := hopen_w hl h; exact ⟨f, h1, by rw [h2]⟩) hv h
set_option maxRecDepth 10000 in
theorem open_events {r : Reach} {b0 : Nat} {v : Value} {d : DataW H} {p : List MemPlace} (hv : Value.okWide Tryz.prog W r b0 79 v) (h : DataW.Trod enc Tryz.prog W base spare held 79 v d p) :
    ∃ xs : List Ev, SeqV W v xs ∧ xs.length + 1 ≤ Rows.uptoBulk d ∧ ∀ M, (∀ x ∈ DataW.weights Tryz.prog 79 d, x ≤ M) → (∀ f ∈ xs, f.p.length ≤ M) ∧ xs.length * 24 ≤ M :=
  open_seq (⟨0, []⟩ : Ev) Tryz.underlying79 hcellsE (by decide) hbytesE evD (fun f => f.p.length) weights_ev hopen_e hv h
theorem hsized {ts : List TypeId} {ds : List (DataW H)} (h : (DataW.weightsEach Tryz.prog ts ds).all (· ≤ reachBytes) = true) {j : Nat} {T : TypeId} {d : DataW H} (ht : ts[j]? = some T) (hd : ds[j]? = some d) : ∀ x ∈ DataW.weights Tryz.prog T d, x ≤ 140737488351232 := by
  intro x hx
  have e : reachBytes = 140737488351232 := by decide
  have h1 := List.all_eq_true.1 h _ (DataW.weights_mem_each ht hd x hx)
  rw [e] at h1
  simpa using h1
set_option maxRecDepth 10000 in
/-- one watch -/
theorem open_watch {r : Reach} {b0 : Nat} {v : Value} {d : DataW H} {p : List MemPlace} (hv : Value.okWide Tryz.prog W r b0 118 v) (h : DataW.Trod enc Tryz.prog W base spare held 118 v d p) :
    ∃ t : Wa, v = waV t ∧ d = waD t ∧ p = [] ∧ WaOk t := by
  obtain ⟨cs, rfl, hsz⟩ := okWide_struct Tryz.underlying118 hv
  have hsz3 : cs.toList.length = 3 := hsz.trans hcellsW
  obtain ⟨fuel, hf⟩ := h
  obtain ⟨f, h1, h2, h3⟩ := hopen_w hsz3 (show DataW.trod enc Tryz.prog W base spare held fuel 118 cs.toList = some (d, p) by simpa [Value.cells] using hf)
  simp only [Prod.mk.injEq] at h2
  refine ⟨f, ?_, h2.1, h2.2, h3⟩
  obtain ⟨l⟩ := cs
  simp only at h1
  subst h1
  rfl
set_option maxRecDepth 10000 in
theorem shut_watch {t : Wa} (h : WaOk t) : DataW.Trod enc Tryz.prog W base spare held 118 (waV t) (waD t) [] := by
  have i : ∀ x : Int, (Lit.int .i64 x).wf = true → DataW.trod enc Tryz.prog W base spare held 1 3 [.int .i64 x] = some (.lit (.int .i64 x), []) := fun x hx => by simp [DataW.trod, Tryz.underlying3, hx]
  have g : ∀ l : List UInt8, (ByteArray.mk l.toArray).size ≤ maxLen → DataW.trod enc Tryz.prog W base spare held 1 9 [.string ⟨l.toArray⟩] = some (.lit (.string l), []) := fun l hl => by simp [DataW.trod, Tryz.underlying9, hl]
  have := trod_struct_mk (enc := enc) (w := W) (base := base) (spare := spare) (held := held) (n := 1) (cs := [.int .i64 t.s, .int .i64 t.k, .string ⟨t.p.toArray⟩])
    (xs := [(.lit (.int .i64 t.s), []), (.lit (.int .i64 t.k), []), (.lit (.string t.p), [])])
    Tryz.underlying118 hcellsW.symm (by simp [hcellsInt, hcellsStr, i _ h.s, i _ h.k, g _ h.p])
  exact ⟨2, by simpa [Value.cells, waV, waD] using this⟩
end
end Go.Proofs.YtaoflcmeiaffjaaGreatDoor

namespace Go.Proofs.YtaoflcmeiaffjaaGreatDoor
open Go.ChangeShapes Go.WideShapes Go.ChangeAt Go.RowKit Go.ChangeMaps

theorem ncellsLog : Tryz.prog.cellsOf 25 = 1 := by kernel_rfl
theorem nbytesTxn : Tryz.prog.bytesOf 47 = 72 := by kernel_rfl

section
variable {H : Type} {enc : TypeId × Value → H} {W : World} {base : Nat} {spare : Nat → Bool} {held : Bool}
set_option maxRecDepth 10000 in
theorem nopen_one {n : Nat} {cs : List Value} {x : DataW H × List MemPlace} (hl : cs.length = 7) (h : DataW.trod enc Tryz.prog W base spare held n 47 cs = some x) : ∃ t : WTxn, cs = tcells t ∧ x.1 = txnD t ∧ TxnOk t := by
  match cs, hl with
  | [c0, c1, c2, c3, c4, c5, c6], _ =>
    obtain ⟨xs, n, _, hx, _, hlen, hfs⟩ := DataW.trod_struct Tryz.underlying47 h
    match xs, hlen with
    | [y0, y1, y2, y3, y4, y5, y6], _ =>
      obtain ⟨z, e0, rfl, w0⟩ := DataW.trod_int Tryz.underlying3 (show DataW.trod enc Tryz.prog W base spare held n 3 [c0] = some y0 by simpa [cellsInt] using hfs 0 _ rfl)
      obtain ⟨o, e1, rfl, w1⟩ := DataW.trod_int Tryz.underlying3 (show DataW.trod enc Tryz.prog W base spare held n 3 [c1] = some y1 by simpa [cellsInt] using hfs 1 _ rfl)
      obtain ⟨s, e2, rfl, w2⟩ := DataW.trod_int Tryz.underlying3 (show DataW.trod enc Tryz.prog W base spare held n 3 [c2] = some y2 by simpa [cellsInt] using hfs 2 _ rfl)
      obtain ⟨p', e3, rfl, w3⟩ := DataW.trod_string Tryz.underlying9 (show DataW.trod enc Tryz.prog W base spare held n 9 [c3] = some y3 by simpa [cellsStr] using hfs 3 _ rfl)
      obtain ⟨d', e4, rfl, w4⟩ := DataW.trod_string Tryz.underlying9 (show DataW.trod enc Tryz.prog W base spare held n 9 [c4] = some y4 by simpa [cellsStr] using hfs 4 _ rfl)
      obtain ⟨v', e5, rfl, w5⟩ := DataW.trod_int Tryz.underlying3 (show DataW.trod enc Tryz.prog W base spare held n 3 [c5] = some y5 by simpa [cellsInt] using hfs 5 _ rfl)
      obtain ⟨u', e6, rfl, w6⟩ := DataW.trod_int Tryz.underlying3 (show DataW.trod enc Tryz.prog W base spare held n 3 [c6] = some y6 by simpa [cellsInt] using hfs 6 _ rfl)
      simp only [List.cons.injEq, and_true] at e0 e1 e2 e3 e4 e5 e6
      subst e0 e1 e2 e3 e4 e5 e6
      obtain ⟨pl, rfl⟩ := ba_of p'
      obtain ⟨dl, rfl⟩ := ba_of d'
      subst hx
      exact ⟨⟨z, o, s, pl, dl, v', u'⟩, rfl, rfl, ⟨w0, w1, w2, w3, w4, w5, w6⟩⟩
theorem nweights_txn (t : WTxn) : DataW.weights Tryz.prog 47 (txnD t : DataW H) = [t.p.length, t.d.length] := by
  simp [DataW.weights, txnD, Tryz.underlying47, DataW.weightsEach]

set_option maxRecDepth 10000 in
theorem nopen_log {r : Reach} {b0 : Nat} {v : Value} {d : DataW H} {p : List MemPlace}
    (hv : Value.okWide Tryz.prog W r b0 25 v) (h : DataW.Trod enc Tryz.prog W base spare held 25 v d p) :
    ∃ ts, LogV W v ts ∧ (∀ t ∈ ts, TxnOk t) ∧ ∀ M, (∀ x ∈ DataW.weights Tryz.prog 25 d, x ≤ M) → (∀ t ∈ ts, t.p.length ≤ M ∧ t.d.length ≤ M) ∧ ts.length * 72 ≤ M := by
  obtain ⟨fuel, hf⟩ := h
  obtain ⟨sa, sl, sc, rfl⟩ := okWide_slice Tryz.underlying25 hv
  have hf' : DataW.trod enc Tryz.prog W base spare held fuel 25 [.slice sa sl sc] = some (d, p) := by simpa [Value.cells] using hf
  clear hf
  rcases Go.Deep.open_slice Tryz.underlying25 hf' with ⟨h1, hx⟩ | ⟨a, len, cap, m, k, D, Pl, h1, hb, hl, hm, hmm, hx, hel⟩
  · simp only [List.cons.injEq, and_true] at h1
    rw [h1]
    exact ⟨[], LogV.nil W, by simp, fun M _ => ⟨by simp, by simp⟩⟩
  · simp only [List.cons.injEq, and_true] at h1
    rw [h1]
    simp only [Prod.mk.injEq] at hx
    obtain ⟨rfl, _⟩ := hx
    have hlm : len ≤ m := by rw [hmm]; split <;> omega
    have each : ∀ i, i < len → ∃ t : WTxn, (∀ c, c < 7 → W.cell? (a.add (i * 7 + c)) = (tcells t)[c]?) ∧ D i = txnD t ∧ TxnOk t := by
      intro i hi
      obtain ⟨cs', g1, g2⟩ := hel i (by omega)
      rw [cellsTxn] at g1
      obtain ⟨_, hlen, hcell⟩ := World.cells?_some g1
      obtain ⟨t, rfl, hd, hok⟩ := nopen_one hlen g2
      refine ⟨t, fun c hc => ?_, hd, hok⟩
      have := hcell c hc
      rwa [Go.Deep.add_add] at this
    have : Inhabited WTxn := ⟨t0⟩
    obtain ⟨F, hF⟩ := Go.Deep.choose_lt each
    refine ⟨(List.range len).map F, ?_, ?_, ?_⟩
    · by_cases h0 : len = 0
      · subst h0
        exact .inl ⟨some a, cap, rfl, rfl, hm⟩
      · have c0 := (hF 0 (by omega)).1 0 (by decide)
        obtain ⟨b, off, sp⟩ := a
        have hsp : sp = none := by
          cases sp with
          | none => rfl
          | some s => simp [World.cell?, Addr.add, tcells] at c0; split at c0 <;> simp at c0
        subst hsp
        have hblt : b < W.heap.size := World.block_lt_of_cell? W _ (show W.cell? ((⟨b, off, none⟩ : Addr).add (0 * 7 + 0)) = some _ from c0) |> fun h => by simpa [Addr.add] using h
        refine .inr ⟨b, off, cap, by simp, by simpa using hl, hm, hblt, by simp; omega, fun j u hj => ?_⟩
        have hjl : j < len * 7 := by
          have := (List.getElem?_eq_some_iff.1 hj).1
          rw [cellsT_length] at this
          simpa using this
        have hi : j / 7 < len := by omega
        have hg := cellsT_get ((List.range len).map F) (j / 7) (F (j / 7)) (by simp [hi]) (j % 7) (by omega)
        rw [show j / 7 * 7 + j % 7 = j by omega, hj] at hg
        have := (hF (j / 7) hi).1 (j % 7) (by omega)
        rw [show j / 7 * 7 + j % 7 = j by omega, Addr.add_lit, ← hg] at this
        exact this
    · intro t ht
      obtain ⟨i, hi, rfl⟩ := List.mem_map.1 ht
      exact (hF i (by simpa using hi)).2.2
    · intro M hM
      have hw : DataW.weights Tryz.prog 25 (.slice ((List.range len).map D) ((List.range (m - len)).map fun j => D (len + j)) : DataW H) =
          (len + (m - len)) * 72 :: (DataW.weightsAll Tryz.prog 47 ((List.range len).map D) ++ DataW.weightsAll Tryz.prog 47 ((List.range (m - len)).map fun j => D (len + j))) := by
        simp [DataW.weights, Tryz.underlying25, nbytesTxn]
      rw [hw] at hM
      refine ⟨fun t ht => ?_, ?_⟩
      · obtain ⟨i, hi, rfl⟩ := List.mem_map.1 ht
        have hi' : i < len := by simpa using hi
        have key : ∀ x ∈ DataW.weights Tryz.prog 47 (D i), x ≤ M := fun x hx => hM x (List.mem_cons_of_mem _ (List.mem_append.2 (.inl (nweightsAll_mem _ (D i) x (List.mem_map.2 ⟨i, hi, rfl⟩) hx))))
        rw [(hF i hi').2.1, nweights_txn] at key
        exact ⟨key _ (by simp), key _ (by simp)⟩
      · have := hM _ (List.mem_cons_self ..)
        simp only [List.length_map, List.length_range]
        omega
theorem nsized_log {ts : List TypeId} {ds : List (DataW H)} (h : (DataW.weightsEach Tryz.prog ts ds).all (· ≤ reachBytes) = true) {j : Nat} {d : DataW H} (ht : ts[j]? = some 25) (hd : ds[j]? = some d) : ∀ x ∈ DataW.weights Tryz.prog 25 d, x ≤ 140737488351232 := by
  intro x hx
  have e : reachBytes = 140737488351232 := by decide
  have h1 := List.all_eq_true.1 h _ (DataW.weights_mem_each ht hd x hx)
  rw [e] at h1
  simpa using h1
end
end Go.Proofs.YtaoflcmeiaffjaaGreatDoor

namespace Go.Proofs.YtaoflcmeiaffjaaGreatDoor
open Go.ChangeShapes Go.WideShapes Go.ChangeAt Go.RowKit Go.ChangeMaps

theorem vcellsBool : Tryz.prog.cellsOf 4 = 1 := by kernel_rfl
theorem vcellsPeer : Tryz.prog.cellsOf 27 = 4 := by kernel_rfl
theorem vcellsWs : Tryz.prog.cellsOf 32 = 1 := by kernel_rfl
theorem vcellsServer : Tryz.prog.cellsOf 34 = 10 := by kernel_rfl

/-- its parts are together no longer than N -/
structure SvB (s : Sv) (N : Nat) : Prop where
  d : s.fs.length * 4 ≤ N
  df : ∀ f ∈ s.fs, f.n.length ≤ N ∧ f.s.length ≤ N ∧ f.t.length ≤ N
  l : s.ts.length * 8 ≤ N
  lf : ∀ x ∈ s.ts, (x.p.length ≤ N ∧ x.d.length ≤ N) ∧ TxnOk x
  n : s.tr.ns.length * 2 ≤ N
  nf : ∀ x ∈ s.tr.ns, x.p.length ≤ N ∧ x.d.length ≤ N
  si : s.tr.ss.length ≤ N
  wa : s.ws.length * 4 ≤ N
  wf : ∀ x ∈ s.ws, x.p.length ≤ N
  z : (Lit.int .i64 s.tr.z).wf = true
theorem SvB.fits {s : Sv} {N : Nat} (h : SvB s N) (hN : N ≤ 1048576) : Fits s :=
  ⟨by have := h.d; omega, fun f hf => by have := h.df f hf; omega, by have := h.l; omega, fun x hx => by have := (h.lf x hx).1; omega, by have := h.n; omega, fun x hx => by have := h.nf x hx; omega, by have := h.si; omega, by have := h.wa; omega, fun x hx => by have := h.wf x hx; omega⟩
theorem SvB.few {s : Sv} {N : Nat} (h : SvB s N) (hN : N ≤ 1048576) : Few s :=
  ⟨by have := h.d; omega, by have := h.l; omega, by have := h.n; omega, by have := h.si; omega, by have := h.wa; omega⟩

section
variable {H : Type} {enc : TypeId × Value → H} {W : World} {base : Nat} {spare : Nat → Bool} {held : Bool}
theorem ubulk_sum {α : Type} (dat : α → DataW H) (b : Nat) (hb : ∀ x, b ≤ Rows.uptoBulk (dat x)) : ∀ xs : List α, xs.length * b ≤ Rows.uptoBulkAll (xs.map dat)
  | [] => by simp [Rows.uptoBulkAll]
  | x :: r => by
    have := ubulk_sum dat b hb r
    have := hb x
    simp only [List.length_cons, List.map_cons, Rows.uptoBulkAll, Nat.add_mul]
    omega
theorem ubulk_mem {α : Type} (dat : α → DataW H) : ∀ (xs : List α) (x : α), x ∈ xs → Rows.uptoBulk (dat x) ≤ Rows.uptoBulkAll (xs.map dat)
  | y :: r, x, h => by
    simp only [List.map_cons, Rows.uptoBulkAll]
    rcases List.mem_cons.1 h with rfl | h
    · omega
    · have := ubulk_mem dat r x h
      omega
set_option maxRecDepth 10000 in
/-- a slice of elements that are laid in a row, and its bulk -/
theorem open_seqU {α : Type} [Lay α] (al : α) {T E : TypeId} (hU : Tryz.prog.underlying T = some (.slice E)) (hk : Tryz.prog.cellsOf E = Lay.k α) (hk0 : 0 < Lay.k α) (dat : α → DataW H) (P : α → Prop)
    (ho : ∀ {n : Nat} {cs : List Value} {x : DataW H × List MemPlace}, cs.length = Lay.k α → DataW.trod enc Tryz.prog W base spare held n E cs = some x → ∃ f : α, cs = Lay.cs f ∧ x.1 = dat f ∧ P f)
    {fuel : Nat} {v : Value} {y : DataW H × List MemPlace} (h : DataW.trod enc Tryz.prog W base spare held fuel T [v] = some y) :
    ∃ xs : List α, SeqV W v xs ∧ Rows.uptoBulkAll (xs.map dat) + 1 ≤ Rows.uptoBulk y.1 ∧ ∀ x ∈ xs, P x := by
  rcases Go.Deep.open_slice hU h with ⟨h1, hx⟩ | ⟨a, len, cap, m, k, D, Pl, h1, hb, hl, hm, hmm, hx, hel⟩
  · simp only [List.cons.injEq, and_true] at h1
    rw [h1]
    exact ⟨[], SeqV.nil W, by have := bulk_pos y.1; simpa [Rows.uptoBulkAll] using this, by simp⟩
  · simp only [List.cons.injEq, and_true] at h1
    rw [h1]
    subst hx
    have hlm : len ≤ m := by rw [hmm]; split <;> omega
    have each : ∀ i, i < len → ∃ f : α, (∀ c, c < Lay.k α → W.cell? (a.add (i * Lay.k α + c)) = (Lay.cs f)[c]?) ∧ D i = dat f ∧ P f := by
      intro i hi
      obtain ⟨cs', g1, g2⟩ := hel i (by omega)
      rw [hk] at g1
      obtain ⟨_, hlen, hcell⟩ := World.cells?_some g1
      obtain ⟨f, rfl, hd, hp⟩ := ho hlen g2
      refine ⟨f, fun c hc => ?_, hd, hp⟩
      have := hcell c hc
      rwa [Go.Deep.add_add] at this
    have : Inhabited α := ⟨al⟩
    obtain ⟨F, hF⟩ := Go.Deep.choose_lt each
    refine ⟨(List.range len).map F, ?_, ?_, ?_⟩
    · by_cases h0 : len = 0
      · subst h0
        exact .inl ⟨some a, cap, rfl, rfl, hm⟩
      · have c0 := (hF 0 (by omega)).1 0 hk0
        obtain ⟨y, hy⟩ : ∃ y, (Lay.cs (F 0))[0]? = some y := ⟨_, List.getElem?_eq_getElem (by rw [Lay.len]; exact hk0)⟩
        rw [hy] at c0
        obtain ⟨b, off, sp⟩ := a
        have hsp : sp = none := by
          cases sp with
          | none => rfl
          | some s => simp [World.cell?, Addr.add] at c0; split at c0 <;> simp at c0
        subst hsp
        have hblt : b < W.heap.size := World.block_lt_of_cell? W _ (show W.cell? ((⟨b, off, none⟩ : Addr).add (0 * Lay.k α + 0)) = some _ from c0) |> fun h => by simpa [Addr.add] using h
        refine .inr ⟨b, off, cap, by simp, by simpa using hl, hm, hblt, by simp; omega, fun j u hj => ?_⟩
        have hjl : j < len * Lay.k α := by
          have := (List.getElem?_eq_some_iff.1 hj).1
          rw [cellsL_length, List.length_map, List.length_range] at this
          exact this
        have hi : j / Lay.k α < len := Nat.div_lt_of_lt_mul (by rw [Nat.mul_comm]; exact hjl)
        have hm' : j % Lay.k α < Lay.k α := Nat.mod_lt _ hk0
        have hdm : j / Lay.k α * Lay.k α + j % Lay.k α = j := by rw [Nat.mul_comm]; exact Nat.div_add_mod j _
        have hg := cellsL_get ((List.range len).map F) (j / Lay.k α) (F (j / Lay.k α)) (by rw [List.getElem?_map, List.getElem?_range hi]; rfl) (j % Lay.k α) hm'
        rw [hdm, hj] at hg
        have := (hF (j / Lay.k α) hi).1 (j % Lay.k α) hm'
        rw [hdm, Addr.add_lit, ← hg] at this
        exact this
    · have e : (List.range len).map D = ((List.range len).map F).map dat := by
        rw [List.map_map]
        exact List.map_congr_left fun i hi => (hF i (by simpa using hi)).2.1
      simp only [Rows.uptoBulk, e]
      omega
    · intro x hx
      obtain ⟨i, hi, rfl⟩ := List.mem_map.1 hx
      exact (hF i (by simpa using hi)).2.2
theorem open_int1 {n : Nat} {cs : List Value} {x : DataW H × List MemPlace} (_hl : cs.length = Lay.k Int) (h : DataW.trod enc Tryz.prog W base spare held n 3 cs = some x) : ∃ f : Int, cs = Lay.cs f ∧ x.1 = (.lit (.int .i64 f) : DataW H) ∧ True := by
  obtain ⟨i, e, rfl, _⟩ := DataW.trod_int Tryz.underlying3 h
  exact ⟨i, e, rfl, trivial⟩

set_option maxRecDepth 10000 in
set_option maxHeartbeats 1000000 in
theorem open_server {r : Reach} {b0 : Nat} {v : Value} {d : DataW H} {p : List MemPlace}
    (hv : Value.okWide Tryz.prog W r b0 34 v) (h : DataW.Trod enc Tryz.prog W base spare held 34 v d p) :
    ∃ s, SvV W v s ∧ SvB s (Rows.uptoBulk d) := by
  obtain ⟨cs, rfl, hsz⟩ := okWide_struct Tryz.underlying34 hv
  have hsz1 : cs.size = 10 := hsz.trans vcellsServer
  obtain ⟨l⟩ := cs
  match l, hsz1 with
  | [c0, c1, c2, c3, c4, c5, c6, c7, c8, c9], _ =>
    obtain ⟨fuel, hf⟩ := h
    have hf' : DataW.trod enc Tryz.prog W base spare held fuel 34 [c0, c1, c2, c3, c4, c5, c6, c7, c8, c9] = some (d, p) := by simpa [Value.cells] using hf
    obtain ⟨xs, k, _, hx, _, hlen, hfs⟩ := DataW.trod_struct Tryz.underlying34 hf'
    match xs, hlen with
    | [y0, y1, y2, y3, y4], _ =>
      obtain ⟨b0, e0, rfl⟩ := DataW.trod_bool Tryz.underlying4 (show DataW.trod enc Tryz.prog W base spare held k 4 [c0] = some y0 by simpa [vcellsBool] using hfs 0 _ rfl)
      have q1 : DataW.trod enc Tryz.prog W base spare held k 24 [c1] = some y1 := by simpa [vcellsBool, cellsDisk] using hfs 1 _ rfl
      have q2 : DataW.trod enc Tryz.prog W base spare held k 27 [c2, c3, c4, c5] = some y2 := by simpa [vcellsBool, cellsDisk, vcellsPeer] using hfs 2 _ rfl
      have q3 : DataW.trod enc Tryz.prog W base spare held k 31 [c6, c7, c8] = some y3 := by simpa [vcellsBool, cellsDisk, vcellsPeer, ncellsTree] using hfs 3 _ rfl
      have q4 : DataW.trod enc Tryz.prog W base spare held k 32 [c9] = some y4 := by simpa [vcellsBool, cellsDisk, vcellsPeer, ncellsTree, vcellsWs] using hfs 4 _ rfl
      obtain ⟨z1, n1, hx1, _, hy1⟩ := trod_struct1 Tryz.underlying24 q1
      have hy1' : DataW.trod enc Tryz.prog W base spare held n1 22 [c1] = some z1 := by simpa [cellsSl] using hy1
      obtain ⟨fs, hd, ud, _⟩ := open_seqU (⟨[], [], []⟩ : DF) Tryz.underlying22 cellsFile (by decide) fileD (fun _ => True) (fun hl h => by obtain ⟨f, h1, h2⟩ := open_file hl h; exact ⟨f, h1, h2, trivial⟩) hy1'
      obtain ⟨xs2, k2, _, hx2, _, hlen2, hfs2⟩ := DataW.trod_struct Tryz.underlying27 q2
      match xs2, hlen2 with
      | [p0, p1, p2, p3], _ =>
        obtain ⟨i2, e2, rfl, _⟩ := DataW.trod_int Tryz.underlying3 (show DataW.trod enc Tryz.prog W base spare held k2 3 [c2] = some p0 by simpa [ncellsInt] using hfs2 0 _ rfl)
        obtain ⟨i3, e3, rfl, _⟩ := DataW.trod_int Tryz.underlying3 (show DataW.trod enc Tryz.prog W base spare held k2 3 [c3] = some p1 by simpa [ncellsInt] using hfs2 1 _ rfl)
        have q24 : DataW.trod enc Tryz.prog W base spare held k2 25 [c4] = some p2 := by simpa [ncellsInt, ncellsLog] using hfs2 2 _ rfl
        obtain ⟨i5, e5, rfl, _⟩ := DataW.trod_int Tryz.underlying3 (show DataW.trod enc Tryz.prog W base spare held k2 3 [c5] = some p3 by simpa [ncellsInt, ncellsLog] using hfs2 3 _ rfl)
        obtain ⟨ts, hl, ul, okl⟩ := open_seqU (⟨0, 0, 0, [], [], 0, 0⟩ : WTxn) Tryz.underlying25 cellsTxn (by decide) txnD TxnOk nopen_one q24
        obtain ⟨xs3, k3, _, hx3, _, hlen3, hfs3⟩ := DataW.trod_struct Tryz.underlying31 q3
        match xs3, hlen3 with
        | [t0, t1, t2], _ =>
          obtain ⟨i6, e6, rfl, wz⟩ := DataW.trod_int Tryz.underlying3 (show DataW.trod enc Tryz.prog W base spare held k3 3 [c6] = some t0 by simpa [ncellsInt] using hfs3 0 _ rfl)
          obtain ⟨ns, hn, un, _⟩ := open_seqU (⟨[], [], 0, 0, 0, 0, 0, 0, 0⟩ : Nd) Tryz.underlying28 ncellsNode (by decide) nodeD (fun _ => True) (fun hl h => by obtain ⟨f, h1, h2⟩ := open_node hl h; exact ⟨f, h1, h2, trivial⟩) (show DataW.trod enc Tryz.prog W base spare held k3 28 [c7] = some t1 by simpa [ncellsInt, ncellsNs] using hfs3 1 _ rfl)
          obtain ⟨ss, hs, us, _⟩ := open_seqU (0 : Int) Tryz.underlying29 ncellsInt (by decide) (fun i => (.lit (.int .i64 i) : DataW H)) (fun _ => True) open_int1 (show DataW.trod enc Tryz.prog W base spare held k3 29 [c8] = some t2 by simpa [ncellsInt, ncellsNs, ncellsIs] using hfs3 2 _ rfl)
          obtain ⟨ws, hw, uw, _⟩ := open_seqU (⟨0, 0, []⟩ : Wa) Tryz.underlying32 hcellsW (by decide) waD (fun _ => True) (fun hl h => by obtain ⟨f, h1, h2, _⟩ := hopen_w hl h; exact ⟨f, h1, by rw [h2], trivial⟩) q4
          simp only [List.cons.injEq, and_true] at e0 e2 e3 e5 e6
          subst e0 e2 e3 e5 e6
          subst hx1 hx2 hx3
          simp only [Prod.mk.injEq] at hx
          obtain ⟨rfl, _⟩ := hx
          simp only [List.map_cons, List.map_nil, Rows.uptoBulk, Rows.uptoBulkAll]
          refine ⟨⟨b0, fs, i2, i3, ts, i5, ⟨i6, ns, ss⟩, ws⟩, ⟨c1, c4, c7, c8, c9, rfl, seq_disk.1 hd, seq_log.1 hl, hn, hs, hw⟩, ?_⟩
          refine ⟨?_, fun f hf => ?_, ?_, fun x hx => ⟨?_, okl x hx⟩, ?_, fun x hx => ?_, ?_, ?_, fun x hx => ?_, wz⟩
          · have := ubulk_sum (H := H) fileD 4 (fun f => by simp [fileD, Rows.uptoBulk, Rows.uptoBulkAll]; omega) fs
            simp only; omega
          · have := ubulk_mem (H := H) fileD fs f hf
            simp only [fileD, Rows.uptoBulk, Rows.uptoBulkAll] at this
            omega
          · have := ubulk_sum (H := H) txnD 8 (fun f => by simp [txnD, Rows.uptoBulk, Rows.uptoBulkAll]; omega) ts
            simp only; omega
          · have := ubulk_mem (H := H) txnD ts x hx
            simp only [txnD, Rows.uptoBulk, Rows.uptoBulkAll] at this
            omega
          · have := ubulk_sum (H := H) nodeD 2 (fun f => by simp [nodeD, Rows.uptoBulk, Rows.uptoBulkAll]; omega) ns
            simp only; omega
          · have := ubulk_mem (H := H) nodeD ns x hx
            simp only [nodeD, Rows.uptoBulk, Rows.uptoBulkAll] at this
            omega
          · have := ubulk_sum (H := H) (fun i : Int => (.lit (.int .i64 i) : DataW H)) 1 (fun f => by simp [Rows.uptoBulk]) ss
            simp only; omega
          · have := ubulk_sum (H := H) waD 4 (fun f => by simp [waD, Rows.uptoBulk, Rows.uptoBulkAll]; omega) ws
            simp only; omega
          · have := ubulk_mem (H := H) waD ws x hx
            simp only [waD, Rows.uptoBulk, Rows.uptoBulkAll] at this
            omega
end
end Go.Proofs.YtaoflcmeiaffjaaGreatDoor
