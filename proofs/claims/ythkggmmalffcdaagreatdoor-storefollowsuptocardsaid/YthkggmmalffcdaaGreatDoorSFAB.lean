/-
  What aviaryref.steps makes, for every text up to a bound: a new slice of the pieces between slashes; the walk.
  What aviaryref.GoodPath answers, for every text up to a bound: the walk.
-/
import Derived.Test.YthkggmmalffcdaaGreatDoorSFA
import Derived.Test.YthkggmmalffcdaaGreatDoorSFR
import Derived.Test.YthkggmmalffcdaaGreatDoorSFC
import Derived.OwnWalk
import Derived.WalkSmall
import Derived.Maps.AppendAt
import Derived.RegionTactic
namespace Go.Proofs.YthkggmmalffcdaaGreatDoor
open Go.RowKit

def strV (p : List UInt8) : Value := .string ⟨p.toArray⟩
theorem splitL_snoc_slash (a : List UInt8) : splitL (a ++ [47]) = splitL a ++ [[]] := splitL_tail a [] (by simp)
theorem splitL_snoc : ∀ (a : List UInt8) (c : UInt8), c ≠ 47 → ∃ ini last, splitL a = ini ++ [last] ∧ splitL (a ++ [c]) = ini ++ [last ++ [c]]
  | [], c, hc => ⟨[], [], rfl, by simp [splitL, hc]⟩
  | x :: a, c, hc => by
    obtain ⟨ini, last, h1, h2⟩ := splitL_snoc a c hc
    by_cases hx : x = 47
    · subst hx
      exact ⟨[] :: ini, last, by rw [splitL_slash, h1]; rfl, by rw [List.cons_append, splitL_slash, h2]; rfl⟩
    · cases ini with
      | nil => exact ⟨[], x :: last, by rw [splitL_other hx h1]; rfl, by rw [List.cons_append, splitL_other hx h2]; rfl⟩
      | cons p ps => exact ⟨(x :: p) :: ps, last, by rw [splitL_other hx h1]; rfl, by rw [List.cons_append, splitL_other hx h2]; rfl⟩
theorem splitL_count' (l : List UInt8) : 1 ≤ (splitL l).length ∧ (splitL l).length ≤ l.length + 1 := by
  induction l with
  | nil => simp [splitL]
  | cons c l ih =>
    by_cases hc : c = 47
    · subst hc; rw [splitL_slash]; simp; omega
    · cases hl : splitL l with
      | nil => exact absurd hl (splitL_ne l)
      | cons p ps => rw [splitL_other hc hl]; rw [hl] at ih; simp at ih ⊢; omega

theorem infoS : (Tryz.prog.info? 9).map (fun i => (i.zero, i.size, i.bytes)) = some (some (.string ⟨#[]⟩), 1, 16) := by kernel_rfl

theorem size_setCell (w : World) (a : Addr) (v : Value) : (w.setCell a v).heap.size = w.heap.size := by
  show (w.heap.modify a.block _).size = _
  rw [Array.size_modify]
theorem heap_setCell_same {w : World} {g j : Nat} {cur : Array Value} {t : TypeId} {fz : Nat × Nat} (v : Value) (h : w.heap[g]? = some (.cells cur t fz)) :
    (w.setCell ⟨g, j, none⟩ v).heap[g]? = some (.cells (cur.setIfInBounds j v) t fz) := by
  obtain ⟨hlt, hk⟩ := Array.getElem?_eq_some_iff.1 h
  show (w.heap.modify g _)[g]? = _
  rw [Array.getElem?_eq_getElem (by rw [Array.size_modify]; exact hlt), Array.getElem_modify_self, hk]
  rfl
/-- the last string of a row is set anew -/
theorem row_set {w : World} {base g cap : Nat} {cur : Array Value} {ini : List (List UInt8)} {last x : List UInt8} (o : Obj) (h : w.heap[g]? = some (.cells cur 9 (0, 0))) (hb : base ≤ g) (h1 : ini.length + 1 ≤ cap) (h2 : cap ≤ maxLen) (h3 : cur.size = cap)
    (h4 : cur.toList.take (ini.length + [last].length) = ini.map strV ++ [last].map strV) :
    (((w.setCell ⟨g, ini.length, none⟩ (.string ⟨x.toArray⟩)).alloc o).drew).ownsRow base 9 1 (.slice (some ⟨g, 0, none⟩) (ini.length + 1) cap) (ini.length + 1) ((ini ++ [x]).map strV) := by
  have hlt : g < w.heap.size := (Array.getElem?_eq_some_iff.1 h).1
  refine ⟨by simp, .inr ⟨g, cap, cur.setIfInBounds ini.length (.string ⟨x.toArray⟩), rfl, hb, ?_, h1, h2, by simpa using h3, ?_⟩⟩
  · show ((w.setCell _ _).alloc o).heap[g]? = _
    rw [Below.heap_alloc _ _ _ (by rw [size_setCell]; exact hlt)]
    exact heap_setCell_same _ h
  · rw [Nat.mul_one, Array.toList_setIfInBounds]
    have h5 : cur.toList.take ini.length = ini.map strV := by
      have h6 := congrArg (List.take ini.length) h4
      rw [List.take_take] at h6
      simpa using h6
    have h7 : ini.length < cur.toList.length := by simp; omega
    rw [List.take_succ_eq_append_getElem (by simpa using h7), List.take_set_of_le (Nat.le_refl _), h5]
    simp [strV]
theorem row_ne {W : World} {base n B : Nat} {v : Value} {xs : List Value} {cs : Array Value} {fz : Nat × Nat} (h : W.ownsRow base 9 1 v n xs) (hb : W.heap[B]? = some (.cells cs 5 fz)) : some B ≠ v.ownBlock := by
  rcases h.2 with ⟨rfl, _⟩ | ⟨g, cap, cur, rfl, _, hgb, _⟩
  · simp [Value.ownBlock]
  · intro e
    obtain rfl : B = g := by simpa [Value.ownBlock] using e
    rw [hb] at hgb
    simp at hgb

set_option maxRecDepth 10000 in
set_option maxHeartbeats 1000000 in
theorem refSteps_any (l : List UInt8) (w : World) (hl : l.length ≤ 1048576) :
    Calls Tryz.prog 105 #[.string ⟨l.toArray⟩] w fun e w' =>
      ∃ v, e = .returned v ∧ w'.ownsRow w.heap.size 9 1 v (splitL l).length ((splitL l).map strV) ∧ Below w.heap.size w w' := by
  have hz : (ByteArray.mk l.toArray).size = l.length := Lib.size_eq ⟨l.toArray⟩
  have hconv : ∀ W s, (convert 9 176 (.string s)).run Tryz.prog W = .ok (.slice (some ⟨W.heap.size, 0, none⟩) s.size (grownCap W s.size 0 5)) (Lib.bytesWorld W 5 s) := fun W s =>
    Lib.run_convert_string_bytes W 9 176 5 s Tryz.underlying9 Tryz.underlying176 Tryz.underlying5
  go_enter Tryz.func105, Tryz.ntmps105
  go_wp2
  generalize hW1 : Lib.bytesWorld (w.alloc (.cells #[.string ⟨#[]⟩] 9)) 5 ⟨l.toArray⟩ = W1
  have hs1 : W1.heap.size = w.heap.size + 2 := by rw [← hW1, Lib.bytesWorld_size]; simp
  have Hcell : Hid (∀ j (hj : j < l.length), W1.cell? ⟨w.heap.size + 1, j, none⟩ = some (.int .u8 (l[j].toNat : Int))) := hide (fun j hj => by
    rw [← hW1]
    have h := bytes_cell (w.alloc (.cells #[.string ⟨#[]⟩] 9)) 5 ⟨l.toArray⟩ l rfl j hj
    rwa [World.size_alloc] at h)
  have htag : ∃ cs fz, W1.heap[w.heap.size + 1]? = some (.cells cs 5 fz) := by
    rw [← hW1]
    have h := Lib.bytesWorld_at_new (w.alloc (.cells #[.string ⟨#[]⟩] 9)) 5 ⟨l.toArray⟩
    rw [World.size_alloc] at h
    exact ⟨_, _, h⟩
  have hB1 : Below w.heap.size w W1 := by rw [← hW1]; exact ((Below.refl _ w).alloc (Nat.le_refl _) _).trans ((bytes_below _ _ _).mono (by simp))
  have hrow1 : W1.ownsRow w.heap.size 9 1 (.slice (some ⟨w.heap.size, 0, none⟩) 1 1) 1 [.string ⟨#[]⟩] := by
    refine ⟨rfl, .inr ⟨w.heap.size, 1, #[.string ⟨#[]⟩], rfl, Nat.le_refl _, ?_, Nat.le_refl _, by decide, rfl, rfl⟩⟩
    rw [← hW1, Lib.bytesWorld_at_old _ _ _ _ (by simp)]
    exact World.alloc_heap_new _ _
  clear hW1
  have Htag := hide htag
  clear htag
  go_loopw [3, 10] (fun v i wr => ∃ k : Nat, k ≤ l.length ∧ i = .int .i64 k ∧ wr.ownsRow w.heap.size 9 1 v (splitL (l.take k)).length ((splitL (l.take k)).map strV) ∧ Below w.heap.size w wr ∧ wr.heap[w.heap.size + 1]? = W1.heap[w.heap.size + 1]?) (fun _ i _ => l.length - (intOf i).toNat)
  case atStart => exact ⟨0, Nat.zero_le _, rfl, hrow1, hB1, rfl⟩
  case round =>
    obtain ⟨k, hk, rfl, hown, hB, hblk⟩ := hrel
    clear hrow1 hB1
    have Hown := hide hown
    have Hblk := hide hblk
    clear hblk
    have hcn := splitL_count' (l.take k)
    have hlt' : (l.take k).length ≤ k := List.length_take_le _ _
    by_cases hlt : k < l.length
    · have hc : wr.cell? ⟨w.heap.size + 1, k, none⟩ = some (.int .u8 (l[k].toNat : Int)) := (World.cell?_of_block (unhide Hblk)).trans (unhide Hcell k hlt)
      have Htk := hide (List.take_succ_eq_append_getElem hlt)
      generalize hcc : l[k] = c at hc Htk
      have hcb := c.toNat_lt
      obtain ⟨i0, hi, hz0, hz1, hz2⟩ := info_parts infoS
      by_cases hsl : c = 47
      · subst hsl
        clear hcc
        go_wp2_with (at_builtin; go_must (refine wpList_append_own _ rfl (.tmp 16) (.tmp 17) 134 rfl w.heap.size 9 i0 (.string ⟨#[]⟩) 1 16 Tryz.underlying134 hi hz0 hz1 hz2 rfl (by decide) _ _ _ rfl (hown.alloc _) ⟨wr.heap.size, 0, none⟩ 1 1 [.string ⟨#[]⟩] rfl rfl (cell_one_new _ _ _) (by simp [Value.oneCell']) (by simp only [maxLen]; omega) (by omega) (by have := hB.size; simp; omega) ?_); intro v' w1 hown' hgrow _)
        refine ⟨⟨k + 1, by omega, by go_num, ?_, ?_, ?_⟩, by simp [intOf]; omega⟩
        · rw [unhide Htk, splitL_snoc_slash, List.length_append, List.map_append]; exact hown'
        · exact (hB.alloc hB.size _).grown hgrow (by have := hB.size; simp; omega) (fun j e => ((unhide Hown).lt j e).1)
        · obtain ⟨cs, fz, ht⟩ := unhide Htag
          have hlt2 : w.heap.size + 1 < wr.heap.size := (Array.getElem?_eq_some_iff.1 ((unhide Hblk).trans ht)).1
          refine (hgrow.block _ (by simp; omega) (row_ne (unhide Hown) ((unhide Hblk).trans ht))).trans ?_
          exact (Below.heap_alloc wr _ _ hlt2).trans (unhide Hblk)
      · obtain ⟨ini, last, hi1, hi2⟩ := splitL_snoc (l.take k) c hsl
        have hsl' : ((c.toNat : Int) == 47) = false := by
          rw [beq_eq_false_iff_ne]
          intro h
          exact hsl (UInt8.toNat_inj.1 (by show c.toNat = 47; omega))
        clear hcc hsl hown
        have hown2 := unhide Hown
        rw [hi1, List.length_append, List.map_append] at hown2
        obtain ⟨hxl, hn | ⟨g, cap, cur, rfl, hg1, hg2, hg3, hg4, hg5, hg6⟩⟩ := hown2
        · exact absurd hn.2 (by simp)
        · have hgl : g < wr.heap.size := (Array.getElem?_eq_some_iff.1 hg2).1
          rw [Nat.mul_one] at hg5 hg6
          have hcl : wr.cell? ⟨g, ini.length, none⟩ = some (.string ⟨last.toArray⟩) := by
            have h := congrArg (fun x : List Value => x[ini.length]?) hg6
            simp only [List.length_singleton, List.getElem?_take] at h
            rw [if_pos (by omega), List.getElem?_append_right (by simp)] at h
            simp only [List.length_map, Nat.sub_self, List.map_cons, List.map_nil, List.getElem?_cons_zero] at h
            simp only [World.cell?, hg2]
            rw [← Array.getElem?_toList, h]; rfl
          have hfr : wr.frozen? ⟨g, ini.length, none⟩ = false := by simp [World.frozen?, hg2]
          have hll : last.length ≤ 1048576 := by
            have h1 := splitL_length (l.take k) last (by rw [hi1]; simp)
            omega
          have hlz : (ByteArray.mk last.toArray).size = last.length := Lib.size_eq ⟨last.toArray⟩
          have hb2s : ∀ W X, W.cell? ⟨X, 0, none⟩ = some (.int .u8 (c.toNat : Int)) → (convert 176 9 (.slice (some ⟨X, 0, none⟩) 1 1)).run Tryz.prog W = .ok (.string ⟨#[c]⟩) W := fun W X h =>
            run_convert_bytes_back W 176 9 5 ⟨X, 0, none⟩ 1 [c] Tryz.underlying176 Tryz.underlying5 Tryz.underlying9 (fun j hj => by
              obtain rfl : j = 0 := by simpa using hj
              simpa [Addr.add] using h)
          have Hg2 := hide hg2
          have Hg6 := hide hg6
          have Hi1 := hide hi1
          have Hi2 := hide hi2
          clear hg2 hg6 hi1 hi2
          simp only [List.length_singleton] at hxl hg3 hg5 ⊢
          have hil : ini.length ≤ 1048576 := by
            have h := hcn.2
            rw [unhide Hi1] at h
            simp at h
            omega
          have hil1 : (0 : Int) ≤ (ini.length : Int) := by omega
          have hil2 : (ini.length : Int) ≤ 1048576 := by omega
          have hil3 : (ini.length : Int) < (ini.length : Int) + 1 := by omega
          have hca : ∀ o, (wr.alloc o).cell? ⟨g, ini.length, none⟩ = some (.string ⟨last.toArray⟩) := fun o => (World.cell?_of_block (Below.heap_alloc wr o g hgl)).trans hcl
          have hfa : ∀ o, (wr.alloc o).frozen? ⟨g, ini.length, none⟩ = false := fun o => (World.frozen?_of_block (Below.heap_alloc wr o g hgl)).trans hfr
          go_wp2
          go_region
          clear hcl hfr hca hfa hb2s
          go_wp2
          refine ⟨⟨k + 1, by omega, by go_num, ?_, ?_, ?_⟩, by simp [intOf]; omega⟩
          · rw [unhide Htk, unhide Hi2, List.length_append, List.length_singleton, cat_one last [c]]
            exact row_set _ (unhide Hg2) hg1 hg3 hg4 (by simpa using hg5) (unhide Hg6)
          · exact ((hB.setCell (p := ⟨g, ini.length, none⟩) hg1 _).alloc (by rw [size_setCell]; exact hB.size) _).drew
          · obtain ⟨cs, fz, ht⟩ := unhide Htag
            have hb := (unhide Hblk).trans ht
            have hlt2 : w.heap.size + 1 < wr.heap.size := (Array.getElem?_eq_some_iff.1 hb).1
            have hne : w.heap.size + 1 ≠ g := by
              rintro rfl
              have h := unhide Hg2
              rw [hb] at h
              simp at h
            show (((wr.setCell _ _).alloc _).heap)[_]? = _
            rw [Below.heap_alloc _ _ _ (by rw [size_setCell]; exact hlt2), Below.heap_setCell _ _ _ _ hne]
            exact unhide Hblk
    · have hke : k = l.length := by omega
      subst hke
      rw [List.take_length] at Hown
      clear hown
      go_wp2
      go_ret
      exact ⟨_, rfl, unhide Hown, hB⟩

end Go.Proofs.YthkggmmalffcdaaGreatDoor

namespace Go.Proofs.YthkggmmalffcdaaGreatDoor
open Go.RowKit

/-- a slice of strings that was made: where it lies and what its cells hold -/
theorem row_form {W : World} {base n : Nat} {v : Value} {ps : List (List UInt8)} (h : W.ownsRow base 9 1 v n (ps.map strV)) (hn : 1 ≤ n) :
    ∃ g cap, v = .slice (some ⟨g, 0, none⟩) n cap ∧ n ≤ cap ∧ cap ≤ maxLen ∧ g < W.heap.size ∧ base ≤ g ∧ ∀ j (hj : j < ps.length), W.cell? ⟨g, j, none⟩ = some (.string ⟨ps[j].toArray⟩) := by
  obtain ⟨hl, ⟨_, h0⟩ | ⟨g, cap, cur, rfl, hb, hg, h1, h2, h3, h4⟩⟩ := h
  · omega
  · refine ⟨g, cap, rfl, h1, h2, (Array.getElem?_eq_some_iff.1 hg).1, hb, fun j hj => ?_⟩
    simp only [World.cell?, hg]
    have h5 := congrArg (fun x : List Value => x[j]?) h4
    simp only [List.getElem?_take, List.getElem?_map, List.getElem?_eq_getElem hj, Option.map_some] at h5
    rw [if_pos (by simp at hl; omega)] at h5
    rw [← Array.getElem?_toList, h5]; rfl

theorem goodB_nil : goodB [] = false := by decide +kernel
theorem goodB_other {c : UInt8} {r : List UInt8} (h : c ≠ 47) : goodB (c :: r) = false := by
  apply goodB_front
  simp [Lib.hasPrefix, List.isPrefixOf]
  exact fun e => h e.symm
theorem splitL_first {c : UInt8} {r : List UInt8} (h : c ≠ 47) : ∃ p ps, splitL (c :: r) = (c :: p) :: ps := by
  cases hl : splitL r with
  | nil => exact absurd hl (splitL_ne r)
  | cons p ps => exact ⟨p, ps, splitL_other h hl⟩

set_option maxRecDepth 10000 in
set_option maxHeartbeats 1000000 in
theorem refGood_root (w : World) :
    Calls Tryz.prog 102 #[.string ⟨#[47]⟩] w fun e w' => e = .returned (.bool true) ∧ Below w.heap.size w w' := by
  go_enter Tryz.func102, Tryz.ntmps102
  go_wp2_with fail
  go_ret
  exact ⟨rfl, Below.refl _ _⟩

set_option maxRecDepth 10000 in
set_option maxHeartbeats 1000000 in
theorem refGood_long (l : List UInt8) (w : World) (hl : l.length ≤ 1048576) (h200 : 200 < l.length) :
    Calls Tryz.prog 102 #[.string ⟨l.toArray⟩] w fun e w' => e = .returned (.bool false) ∧ Below w.heap.size w w' := by
  have hz : (ByteArray.mk l.toArray).size = l.length := Lib.size_eq ⟨l.toArray⟩
  have hr1 : (l == [47]) = false := by
    rw [beq_eq_false_iff_ne]; rintro rfl; simp at h200
  go_enter Tryz.func102, Tryz.ntmps102
  go_wp2_with fail
  refine (refSteps_any l _ hl).mono ?_
  rintro e w1 ⟨v, rfl, hown, hb1⟩
  obtain ⟨g, cap, rfl, _, _, _, _, _⟩ := row_form hown (splitL_count' l).1
  clear hown
  go_wp2_with fail
  go_ret
  exact ⟨rfl, hb1⟩

set_option maxRecDepth 10000 in
set_option maxHeartbeats 1000000 in
theorem refGood_first (c : UInt8) (r : List UInt8) (w : World) (hl : (c :: r).length ≤ 200) (hc : c ≠ 47) :
    Calls Tryz.prog 102 #[.string ⟨(c :: r).toArray⟩] w fun e w' => e = .returned (.bool false) ∧ Below w.heap.size w w' := by
  obtain ⟨p, ps, hsp⟩ := splitL_first (r := r) hc
  have hz : (ByteArray.mk (c :: r).toArray).size = (c :: r).length := Lib.size_eq ⟨(c :: r).toArray⟩
  have hr1 : (c :: r == [47]) = false := by
    rw [beq_eq_false_iff_ne]; intro h; simp at h; exact hc h.1
  have Hc1 := hide (splitL_count' (c :: r))
  generalize c :: r = l at *
  go_enter Tryz.func102, Tryz.ntmps102
  go_wp2_with fail
  refine (refSteps_any l _ (by omega)).mono ?_
  rintro e w1 ⟨v, rfl, hown, hb1⟩
  obtain ⟨g, cap, rfl, hcap, hcm, hg, hgb, hcell⟩ := row_form hown (unhide Hc1).1
  have h0 := hcell 0 (by rw [hsp]; simp)
  simp only [hsp, List.getElem_cons_zero] at h0
  have hn := (unhide Hc1).1
  clear hown hcell hsp Hc1
  generalize (splitL l).length = n at *
  obtain ⟨q, rfl⟩ : ∃ q, n = q + 1 := ⟨n - 1, by omega⟩
  have hq1 : (0 : Int) < (q : Int) + 1 := by omega
  go_wp2_with fail
  go_ret
  exact ⟨rfl, hb1⟩

set_option maxRecDepth 10000 in
set_option maxHeartbeats 1000000 in
theorem refGood_none (w : World) :
    Calls Tryz.prog 102 #[.string ⟨#[]⟩] w fun e w' => e = .returned (.bool false) ∧ Below w.heap.size w w' := by
  go_enter Tryz.func102, Tryz.ntmps102
  go_wp2_with fail
  refine (refSteps_any [] _ (by simp)).mono ?_
  rintro e w1 ⟨v, rfl, hown, hb1⟩
  obtain ⟨g, cap, rfl, hcap, hcm, hg, hgb, hcell⟩ := row_form hown (by simp [splitL])
  have h0 := hcell 0 (by simp [splitL])
  simp only [splitL, List.getElem_cons_zero] at h0
  simp only [splitL, List.length_singleton] at *
  clear hown hcell
  go_wp2_with fail
  go_ret
  exact ⟨rfl, hb1⟩

set_option maxRecDepth 100000 in
set_option maxHeartbeats 1000000 in
theorem refGood_main (r : List UInt8) (w : World) (hl : r.length + 1 ≤ 200) (hr : r ≠ []) :
    Calls Tryz.prog 102 #[.string ⟨(47 :: r).toArray⟩] w fun e w' => e = .returned (.bool ((splitL r).all namedB)) ∧ Below w.heap.size w w' := by
  have hz : (ByteArray.mk (47 :: r).toArray).size = r.length + 1 := Lib.size_eq ⟨(47 :: r).toArray⟩
  have hr1 : ((47 :: r) == [47]) = false := by
    rw [beq_eq_false_iff_ne]; intro h; simp at h; exact hr h
  have hcnt := splitL_count' r
  have hlen := splitL_length r
  have hsteps := refSteps_any (47 :: r) w (by simp; omega)
  rw [splitL_slash] at hsteps
  generalize 47 :: r = l at *
  generalize splitL r = ps at *
  go_enter Tryz.func102, Tryz.ntmps102
  go_wp2_with fail
  refine hsteps.mono ?_
  clear hsteps
  rintro e w1 ⟨v, rfl, hown, hb1⟩
  obtain ⟨g, cap, rfl, hcap, hcm, hg, hgb, hcell⟩ := row_form hown (by simp)
  have h0 := hcell 0 (by simp)
  simp only [List.getElem_cons_zero] at h0
  have Hcell : Hid (∀ j (hj : j < ps.length), w1.cell? ⟨g, 1 + j, none⟩ = some (.string ⟨ps[j].toArray⟩)) := hide (fun j hj => by
    have h := hcell (1 + j) (by simp; omega)
    rw [h]
    simp [Nat.add_comm 1 j])
  clear hown hcell
  simp only [List.length_cons] at hcap ⊢
  have hm1 : (0 : Int) < (ps.length : Int) + 1 := by omega
  have hm2 : ¬ (ps.length : Int) + 1 < 2 := by omega
  unfold maxLen at hcm
  have Hlen := hide hlen
  clear hlen
  go_wp2_with fail
  clear h0 hm1 hm2 hcap hcm hz hr1
  go_loopw [27] (fun i wr => ∃ j : Nat, j ≤ ps.length ∧ i = .int .i64 j ∧ (ps.take j).all namedB = true ∧ Below w1.heap.size w1 wr) (fun i _ => ps.length - (intOf i).toNat)
  case atStart => exact ⟨0, Nat.zero_le _, rfl, by simp, Below.refl _ _⟩
  case round =>
    obtain ⟨j, hj, rfl, hall, hBr⟩ := hrel
    have Hall := hide hall
    clear hall
    by_cases hjl : j < ps.length
    · have hc : wr.cell? ⟨g, 1 + j, none⟩ = some (.string ⟨ps[j].toArray⟩) := (hBr.cell (p := ⟨g, 1 + j, none⟩) hg).trans (unhide Hcell j hjl)
      have hpl : ps[j].length ≤ 200 := by have := unhide Hlen ps[j] (List.getElem_mem hjl); omega
      have Htk := hide (List.take_succ_eq_append_getElem hjl)
      have Hmem := hide (List.getElem_mem hjl)
      generalize ps[j] = x at hc hpl Htk Hmem
      go_wp2_with fail
      refine (refNamed_any x _ (by omega)).mono ?_
      rintro e w2 ⟨rfl, hb2⟩
      have hBn : Below w1.heap.size w1 w2 := hBr.trans (hb2.mono hBr.size)
      clear hb2 hBr hc
      cases hx : namedB x
      · have Hx := hide hx
        clear hx
        go_wp2_with fail
        go_ret
        refine ⟨ret_bool ?_, hb1.trans (hBn.mono hb1.size)⟩
        symm
        rw [List.all_eq_false]
        exact ⟨x, unhide Hmem, by simp [unhide Hx]⟩
      · have Hx := hide hx
        clear hx
        go_wp2_with fail
        exact ⟨⟨j + 1, by omega, by go_num, by rw [unhide Htk, List.all_append, unhide Hall]; simp [unhide Hx], hBn⟩, by simp [intOf]; omega⟩
    · have hje : j = ps.length := by omega
      subst hje
      rw [List.take_length] at Hall
      go_wp2_with fail
      go_ret
      exact ⟨ret_bool (unhide Hall).symm, hb1.trans (hBr.mono hb1.size)⟩

/-- WHAT aviaryref.GoodPath ANSWERS -/
theorem refGood_any (l : List UInt8) (w : World) (hl : l.length ≤ 1048576) :
    Calls Tryz.prog 102 #[.string ⟨l.toArray⟩] w fun e w' => e = .returned (.bool (goodB l)) ∧ Below w.heap.size w w' := by
  by_cases h200 : 200 < l.length
  · rw [goodB_long h200]; exact refGood_long l w hl h200
  · cases l with
    | nil => rw [goodB_nil]; exact refGood_none w
    | cons c r =>
      by_cases hc : c = 47
      · subst hc
        by_cases hr : r = []
        · subst hr; rw [goodB_root]; exact refGood_root w
        · simp at h200
          rw [goodB_cons r hr, decide_eq_true (by omega), Bool.true_and]
          exact refGood_main r w (by omega) hr
      · rw [goodB_other hc]; exact refGood_first c r w (by omega) hc

end Go.Proofs.YthkggmmalffcdaaGreatDoor
