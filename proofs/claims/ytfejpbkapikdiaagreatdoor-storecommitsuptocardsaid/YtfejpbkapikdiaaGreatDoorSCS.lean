/-
  What aviaryref.steps makes, for every text up to a bound: a new slice of the pieces between slashes; the walk.
  What aviaryref.GoodPath answers, for every text up to a bound: the walk.
  What aviaryref.Split, Depth, Under and Join answer, for all texts up to a bound: the walks.
  aviaryref's GetNode and KidsOf: the walks.
  aviaryref's SameTree and SameEvents, of alike ones: the walks.
  aviaryref's Apply: how what it makes lies in memory; its closures no and parent: the walks.
  aviaryref's Apply: its closure parent: the walk.
-/
import Derived.Test.YtfejpbkapikdiaaGreatDoorSCA
import Derived.Test.YtfejpbkapikdiaaGreatDoorSCR
import Derived.Test.YtfejpbkapikdiaaGreatDoorSCB
import Derived.OwnWalk
import Derived.WalkSmall
import Derived.Maps.AppendAt
import Derived.RegionTactic
import Derived.Test.YtfejpbkapikdiaaGreatDoorSCG
import Derived.ChangeAlike
import Derived.Test.YtfejpbkapikdiaaGreatDoorSCL
import Derived.Deep.QuietTactic
import Derived.BigQuiet
import Derived.BigRegion
namespace Go.Proofs.YtfejpbkapikdiaaGreatDoor
open Go.RowKit

def strV (p : List UInt8) : Value := .string ⟨p.toArray⟩
theorem splitL_snoc_slash (a : List UInt8) : splitL (a ++ [47]) = splitL a ++ [[]] := splitL_tail a [] (by simp)
theorem splitL_snoc : ∀ (a : List UInt8) (c : UInt8), c ≠ 47 → ∃ ini last, splitL a = ini ++ [last] ∧ splitL (a ++ [c]) = ini ++ [last ++ [c]]
  | [], c, hc => ⟨[], [], rfl, by simp [splitL, hc]⟩
  | x :: a, c, hc => by
    obtain ⟨ini, last, h1, h2⟩ := splitL_snoc a c hc
    by_cases hx : x = 47
    · subst hx
      exact ⟨[] :: ini, last, by rw [splitL_slash, h1]; rfl, by rw [List.cons_append, splitL_slash, h2]; rfl⟩
    · cases ini with
      | nil => exact ⟨[], x :: last, by rw [splitL_other hx h1]; rfl, by rw [List.cons_append, splitL_other hx h2]; rfl⟩
      | cons p ps => exact ⟨(x :: p) :: ps, last, by rw [splitL_other hx h1]; rfl, by rw [List.cons_append, splitL_other hx h2]; rfl⟩
theorem splitL_count' (l : List UInt8) : 1 ≤ (splitL l).length ∧ (splitL l).length ≤ l.length + 1 := by
  induction l with
  | nil => simp [splitL]
  | cons c l ih =>
    by_cases hc : c = 47
    · subst hc; rw [splitL_slash]; simp; omega
    · cases hl : splitL l with
      | nil => exact absurd hl (splitL_ne l)
      | cons p ps => rw [splitL_other hc hl]; rw [hl] at ih; simp at ih ⊢; omega

theorem infoS : (Tryz.prog.info? 9).map (fun i => (i.zero, i.size, i.bytes)) = some (some (.string ⟨#[]⟩), 1, 16) := by kernel_rfl

theorem size_setCell (w : World) (a : Addr) (v : Value) : (w.setCell a v).heap.size = w.heap.size := by
  show (w.heap.modify a.block _).size = _
  rw [Array.size_modify]
theorem heap_setCell_same {w : World} {g j : Nat} {cur : Array Value} {t : TypeId} {fz : Nat × Nat} (v : Value) (h : w.heap[g]? = some (.cells cur t fz)) :
    (w.setCell ⟨g, j, none⟩ v).heap[g]? = some (.cells (cur.setIfInBounds j v) t fz) := by
  obtain ⟨hlt, hk⟩ := Array.getElem?_eq_some_iff.1 h
  show (w.heap.modify g _)[g]? = _
  rw [Array.getElem?_eq_getElem (by rw [Array.size_modify]; exact hlt), Array.getElem_modify_self, hk]
  rfl
/-- the last string of a row is set anew -/
theorem row_set {w : World} {base g cap : Nat} {cur : Array Value} {ini : List (List UInt8)} {last x : List UInt8} (o : Obj) (h : w.heap[g]? = some (.cells cur 9 (0, 0))) (hb : base ≤ g) (h1 : ini.length + 1 ≤ cap) (h2 : cap ≤ maxLen) (h3 : cur.size = cap)
    (h4 : cur.toList.take (ini.length + [last].length) = ini.map strV ++ [last].map strV) :
    (((w.setCell ⟨g, ini.length, none⟩ (.string ⟨x.toArray⟩)).alloc o).drew).ownsRow base 9 1 (.slice (some ⟨g, 0, none⟩) (ini.length + 1) cap) (ini.length + 1) ((ini ++ [x]).map strV) := by
  have hlt : g < w.heap.size := (Array.getElem?_eq_some_iff.1 h).1
  refine ⟨by simp, .inr ⟨g, cap, cur.setIfInBounds ini.length (.string ⟨x.toArray⟩), rfl, hb, ?_, h1, h2, by simpa using h3, ?_⟩⟩
  · show ((w.setCell _ _).alloc o).heap[g]? = _
    rw [Below.heap_alloc _ _ _ (by rw [size_setCell]; exact hlt)]
    exact heap_setCell_same _ h
  · rw [Nat.mul_one, Array.toList_setIfInBounds]
    have h5 : cur.toList.take ini.length = ini.map strV := by
      have h6 := congrArg (List.take ini.length) h4
      rw [List.take_take] at h6
      simpa using h6
    have h7 : ini.length < cur.toList.length := by simp; omega
    rw [List.take_succ_eq_append_getElem (by simpa using h7), List.take_set_of_le (Nat.le_refl _), h5]
    simp [strV]
theorem row_ne {W : World} {base n B : Nat} {v : Value} {xs : List Value} {cs : Array Value} {fz : Nat × Nat} (h : W.ownsRow base 9 1 v n xs) (hb : W.heap[B]? = some (.cells cs 5 fz)) : some B ≠ v.ownBlock := by
  rcases h.2 with ⟨rfl, _⟩ | ⟨g, cap, cur, rfl, _, hgb, _⟩
  · simp [Value.ownBlock]
  · intro e
    obtain rfl : B = g := by simpa [Value.ownBlock] using e
    rw [hb] at hgb
    simp at hgb

set_option maxRecDepth 10000 in
set_option maxHeartbeats 1000000 in
theorem refSteps_any (l : List UInt8) (w : World) (hl : l.length ≤ 1048576) :
    Calls Tryz.prog 75 #[.string ⟨l.toArray⟩] w fun e w' =>
      ∃ v, e = .returned v ∧ w'.ownsRow w.heap.size 9 1 v (splitL l).length ((splitL l).map strV) ∧ Below w.heap.size w w' := by
  have hz : (ByteArray.mk l.toArray).size = l.length := Lib.size_eq ⟨l.toArray⟩
  have hconv : ∀ W s, (convert 9 148 (.string s)).run Tryz.prog W = .ok (.slice (some ⟨W.heap.size, 0, none⟩) s.size (grownCap W s.size 0 5)) (Lib.bytesWorld W 5 s) := fun W s =>
    Lib.run_convert_string_bytes W 9 148 5 s Tryz.underlying9 Tryz.underlying148 Tryz.underlying5
  go_enter Tryz.func75, Tryz.ntmps75
  go_wp2
  generalize hW1 : Lib.bytesWorld (w.alloc (.cells #[.string ⟨#[]⟩] 9)) 5 ⟨l.toArray⟩ = W1
  have hs1 : W1.heap.size = w.heap.size + 2 := by rw [← hW1, Lib.bytesWorld_size]; simp
  have Hcell : Hid (∀ j (hj : j < l.length), W1.cell? ⟨w.heap.size + 1, j, none⟩ = some (.int .u8 (l[j].toNat : Int))) := hide (fun j hj => by
    rw [← hW1]
    have h := bytes_cell (w.alloc (.cells #[.string ⟨#[]⟩] 9)) 5 ⟨l.toArray⟩ l rfl j hj
    rwa [World.size_alloc] at h)
  have htag : ∃ cs fz, W1.heap[w.heap.size + 1]? = some (.cells cs 5 fz) := by
    rw [← hW1]
    have h := Lib.bytesWorld_at_new (w.alloc (.cells #[.string ⟨#[]⟩] 9)) 5 ⟨l.toArray⟩
    rw [World.size_alloc] at h
    exact ⟨_, _, h⟩
  have hB1 : Below w.heap.size w W1 := by rw [← hW1]; exact ((Below.refl _ w).alloc (Nat.le_refl _) _).trans ((bytes_below _ _ _).mono (by simp))
  have hrow1 : W1.ownsRow w.heap.size 9 1 (.slice (some ⟨w.heap.size, 0, none⟩) 1 1) 1 [.string ⟨#[]⟩] := by
    refine ⟨rfl, .inr ⟨w.heap.size, 1, #[.string ⟨#[]⟩], rfl, Nat.le_refl _, ?_, Nat.le_refl _, by decide, rfl, rfl⟩⟩
    rw [← hW1, Lib.bytesWorld_at_old _ _ _ _ (by simp)]
    exact World.alloc_heap_new _ _
  clear hW1
  have Htag := hide htag
  clear htag
  go_loopw [3, 10] (fun v i wr => ∃ k : Nat, k ≤ l.length ∧ i = .int .i64 k ∧ wr.ownsRow w.heap.size 9 1 v (splitL (l.take k)).length ((splitL (l.take k)).map strV) ∧ Below w.heap.size w wr ∧ wr.heap[w.heap.size + 1]? = W1.heap[w.heap.size + 1]?) (fun _ i _ => l.length - (intOf i).toNat)
  case atStart => exact ⟨0, Nat.zero_le _, rfl, hrow1, hB1, rfl⟩
  case round =>
    obtain ⟨k, hk, rfl, hown, hB, hblk⟩ := hrel
    clear hrow1 hB1
    have Hown := hide hown
    have Hblk := hide hblk
    clear hblk
    have hcn := splitL_count' (l.take k)
    have hlt' : (l.take k).length ≤ k := List.length_take_le _ _
    by_cases hlt : k < l.length
    · have hc : wr.cell? ⟨w.heap.size + 1, k, none⟩ = some (.int .u8 (l[k].toNat : Int)) := (World.cell?_of_block (unhide Hblk)).trans (unhide Hcell k hlt)
      have Htk := hide (List.take_succ_eq_append_getElem hlt)
      generalize hcc : l[k] = c at hc Htk
      have hcb := c.toNat_lt
      obtain ⟨i0, hi, hz0, hz1, hz2⟩ := info_parts infoS
      by_cases hsl : c = 47
      · subst hsl
        clear hcc
        go_wp2_with (at_builtin; go_must (refine wpList_append_own _ rfl (.tmp 16) (.tmp 17) 116 rfl w.heap.size 9 i0 (.string ⟨#[]⟩) 1 16 Tryz.underlying116 hi hz0 hz1 hz2 rfl (by decide) _ _ _ rfl (hown.alloc _) ⟨wr.heap.size, 0, none⟩ 1 1 [.string ⟨#[]⟩] rfl rfl (cell_one_new _ _ _) (by simp [Value.oneCell']) (by simp only [maxLen]; omega) (by omega) (by have := hB.size; simp; omega) ?_); intro v' w1 hown' hgrow _)
        refine ⟨⟨k + 1, by omega, by go_num, ?_, ?_, ?_⟩, by simp [intOf]; omega⟩
        · rw [unhide Htk, splitL_snoc_slash, List.length_append, List.map_append]; exact hown'
        · exact (hB.alloc hB.size _).grown hgrow (by have := hB.size; simp; omega) (fun j e => ((unhide Hown).lt j e).1)
        · obtain ⟨cs, fz, ht⟩ := unhide Htag
          have hlt2 : w.heap.size + 1 < wr.heap.size := (Array.getElem?_eq_some_iff.1 ((unhide Hblk).trans ht)).1
          refine (hgrow.block _ (by simp; omega) (row_ne (unhide Hown) ((unhide Hblk).trans ht))).trans ?_
          exact (Below.heap_alloc wr _ _ hlt2).trans (unhide Hblk)
      · obtain ⟨ini, last, hi1, hi2⟩ := splitL_snoc (l.take k) c hsl
        have hsl' : ((c.toNat : Int) == 47) = false := by
          rw [beq_eq_false_iff_ne]
          intro h
          exact hsl (UInt8.toNat_inj.1 (by show c.toNat = 47; omega))
        clear hcc hsl hown
        have hown2 := unhide Hown
        rw [hi1, List.length_append, List.map_append] at hown2
        obtain ⟨hxl, hn | ⟨g, cap, cur, rfl, hg1, hg2, hg3, hg4, hg5, hg6⟩⟩ := hown2
        · exact absurd hn.2 (by simp)
        · have hgl : g < wr.heap.size := (Array.getElem?_eq_some_iff.1 hg2).1
          rw [Nat.mul_one] at hg5 hg6
          have hcl : wr.cell? ⟨g, ini.length, none⟩ = some (.string ⟨last.toArray⟩) := by
            have h := congrArg (fun x : List Value => x[ini.length]?) hg6
            simp only [List.length_singleton, List.getElem?_take] at h
            rw [if_pos (by omega), List.getElem?_append_right (by simp)] at h
            simp only [List.length_map, Nat.sub_self, List.map_cons, List.map_nil, List.getElem?_cons_zero] at h
            simp only [World.cell?, hg2]
            rw [← Array.getElem?_toList, h]; rfl
          have hfr : wr.frozen? ⟨g, ini.length, none⟩ = false := by simp [World.frozen?, hg2]
          have hll : last.length ≤ 1048576 := by
            have h1 := splitL_length (l.take k) last (by rw [hi1]; simp)
            omega
          have hlz : (ByteArray.mk last.toArray).size = last.length := Lib.size_eq ⟨last.toArray⟩
          have hb2s : ∀ W X, W.cell? ⟨X, 0, none⟩ = some (.int .u8 (c.toNat : Int)) → (convert 148 9 (.slice (some ⟨X, 0, none⟩) 1 1)).run Tryz.prog W = .ok (.string ⟨#[c]⟩) W := fun W X h =>
            run_convert_bytes_back W 148 9 5 ⟨X, 0, none⟩ 1 [c] Tryz.underlying148 Tryz.underlying5 Tryz.underlying9 (fun j hj => by
              obtain rfl : j = 0 := by simpa using hj
              simpa [Addr.add] using h)
          have Hg2 := hide hg2
          have Hg6 := hide hg6
          have Hi1 := hide hi1
          have Hi2 := hide hi2
          clear hg2 hg6 hi1 hi2
          simp only [List.length_singleton] at hxl hg3 hg5 ⊢
          have hil : ini.length ≤ 1048576 := by
            have h := hcn.2
            rw [unhide Hi1] at h
            simp at h
            omega
          have hil1 : (0 : Int) ≤ (ini.length : Int) := by omega
          have hil2 : (ini.length : Int) ≤ 1048576 := by omega
          have hil3 : (ini.length : Int) < (ini.length : Int) + 1 := by omega
          have hca : ∀ o, (wr.alloc o).cell? ⟨g, ini.length, none⟩ = some (.string ⟨last.toArray⟩) := fun o => (World.cell?_of_block (Below.heap_alloc wr o g hgl)).trans hcl
          have hfa : ∀ o, (wr.alloc o).frozen? ⟨g, ini.length, none⟩ = false := fun o => (World.frozen?_of_block (Below.heap_alloc wr o g hgl)).trans hfr
          go_wp2
          go_region
          clear hcl hfr hca hfa hb2s
          go_wp2
          refine ⟨⟨k + 1, by omega, by go_num, ?_, ?_, ?_⟩, by simp [intOf]; omega⟩
          · rw [unhide Htk, unhide Hi2, List.length_append, List.length_singleton, cat_one last [c]]
            exact row_set _ (unhide Hg2) hg1 hg3 hg4 (by simpa using hg5) (unhide Hg6)
          · exact ((hB.setCell (p := ⟨g, ini.length, none⟩) hg1 _).alloc (by rw [size_setCell]; exact hB.size) _).drew
          · obtain ⟨cs, fz, ht⟩ := unhide Htag
            have hb := (unhide Hblk).trans ht
            have hlt2 : w.heap.size + 1 < wr.heap.size := (Array.getElem?_eq_some_iff.1 hb).1
            have hne : w.heap.size + 1 ≠ g := by
              rintro rfl
              have h := unhide Hg2
              rw [hb] at h
              simp at h
            show (((wr.setCell _ _).alloc _).heap)[_]? = _
            rw [Below.heap_alloc _ _ _ (by rw [size_setCell]; exact hlt2), Below.heap_setCell _ _ _ _ hne]
            exact unhide Hblk
    · have hke : k = l.length := by omega
      subst hke
      rw [List.take_length] at Hown
      clear hown
      go_wp2
      go_ret
      exact ⟨_, rfl, unhide Hown, hB⟩

end Go.Proofs.YtfejpbkapikdiaaGreatDoor

namespace Go.Proofs.YtfejpbkapikdiaaGreatDoor
open Go.RowKit

/-- a slice of strings that was made: where it lies and what its cells hold -/
theorem row_form {W : World} {base n : Nat} {v : Value} {ps : List (List UInt8)} (h : W.ownsRow base 9 1 v n (ps.map strV)) (hn : 1 ≤ n) :
    ∃ g cap, v = .slice (some ⟨g, 0, none⟩) n cap ∧ n ≤ cap ∧ cap ≤ maxLen ∧ g < W.heap.size ∧ base ≤ g ∧ ∀ j (hj : j < ps.length), W.cell? ⟨g, j, none⟩ = some (.string ⟨ps[j].toArray⟩) := by
  obtain ⟨hl, ⟨_, h0⟩ | ⟨g, cap, cur, rfl, hb, hg, h1, h2, h3, h4⟩⟩ := h
  · omega
  · refine ⟨g, cap, rfl, h1, h2, (Array.getElem?_eq_some_iff.1 hg).1, hb, fun j hj => ?_⟩
    simp only [World.cell?, hg]
    have h5 := congrArg (fun x : List Value => x[j]?) h4
    simp only [List.getElem?_take, List.getElem?_map, List.getElem?_eq_getElem hj, Option.map_some] at h5
    rw [if_pos (by simp at hl; omega)] at h5
    rw [← Array.getElem?_toList, h5]; rfl

theorem goodB_nil : goodB [] = false := by decide +kernel
theorem goodB_other {c : UInt8} {r : List UInt8} (h : c ≠ 47) : goodB (c :: r) = false := by
  apply goodB_front
  simp [Lib.hasPrefix, List.isPrefixOf]
  exact fun e => h e.symm
theorem splitL_first {c : UInt8} {r : List UInt8} (h : c ≠ 47) : ∃ p ps, splitL (c :: r) = (c :: p) :: ps := by
  cases hl : splitL r with
  | nil => exact absurd hl (splitL_ne r)
  | cons p ps => exact ⟨p, ps, splitL_other h hl⟩

set_option maxRecDepth 10000 in
set_option maxHeartbeats 1000000 in
theorem refGood_root (w : World) :
    Calls Tryz.prog 72 #[.string ⟨#[47]⟩] w fun e w' => e = .returned (.bool true) ∧ Below w.heap.size w w' := by
  go_enter Tryz.func72, Tryz.ntmps72
  go_wp2_with fail
  go_ret
  exact ⟨rfl, Below.refl _ _⟩

set_option maxRecDepth 10000 in
set_option maxHeartbeats 1000000 in
theorem refGood_long (l : List UInt8) (w : World) (hl : l.length ≤ 1048576) (h200 : 200 < l.length) :
    Calls Tryz.prog 72 #[.string ⟨l.toArray⟩] w fun e w' => e = .returned (.bool false) ∧ Below w.heap.size w w' := by
  have hz : (ByteArray.mk l.toArray).size = l.length := Lib.size_eq ⟨l.toArray⟩
  have hr1 : (l == [47]) = false := by
    rw [beq_eq_false_iff_ne]; rintro rfl; simp at h200
  go_enter Tryz.func72, Tryz.ntmps72
  go_wp2_with fail
  refine (refSteps_any l _ hl).mono ?_
  rintro e w1 ⟨v, rfl, hown, hb1⟩
  obtain ⟨g, cap, rfl, _, _, _, _, _⟩ := row_form hown (splitL_count' l).1
  clear hown
  go_wp2_with fail
  go_ret
  exact ⟨rfl, hb1⟩

set_option maxRecDepth 10000 in
set_option maxHeartbeats 1000000 in
theorem refGood_first (c : UInt8) (r : List UInt8) (w : World) (hl : (c :: r).length ≤ 200) (hc : c ≠ 47) :
    Calls Tryz.prog 72 #[.string ⟨(c :: r).toArray⟩] w fun e w' => e = .returned (.bool false) ∧ Below w.heap.size w w' := by
  obtain ⟨p, ps, hsp⟩ := splitL_first (r := r) hc
  have hz : (ByteArray.mk (c :: r).toArray).size = (c :: r).length := Lib.size_eq ⟨(c :: r).toArray⟩
  have hr1 : (c :: r == [47]) = false := by
    rw [beq_eq_false_iff_ne]; intro h; simp at h; exact hc h.1
  have Hc1 := hide (splitL_count' (c :: r))
  generalize c :: r = l at *
  go_enter Tryz.func72, Tryz.ntmps72
  go_wp2_with fail
  refine (refSteps_any l _ (by omega)).mono ?_
  rintro e w1 ⟨v, rfl, hown, hb1⟩
  obtain ⟨g, cap, rfl, hcap, hcm, hg, hgb, hcell⟩ := row_form hown (unhide Hc1).1
  have h0 := hcell 0 (by rw [hsp]; simp)
  simp only [hsp, List.getElem_cons_zero] at h0
  have hn := (unhide Hc1).1
  clear hown hcell hsp Hc1
  generalize (splitL l).length = n at *
  obtain ⟨q, rfl⟩ : ∃ q, n = q + 1 := ⟨n - 1, by omega⟩
  have hq1 : (0 : Int) < (q : Int) + 1 := by omega
  go_wp2_with fail
  go_ret
  exact ⟨rfl, hb1⟩

set_option maxRecDepth 10000 in
set_option maxHeartbeats 1000000 in
theorem refGood_none (w : World) :
    Calls Tryz.prog 72 #[.string ⟨#[]⟩] w fun e w' => e = .returned (.bool false) ∧ Below w.heap.size w w' := by
  go_enter Tryz.func72, Tryz.ntmps72
  go_wp2_with fail
  refine (refSteps_any [] _ (by simp)).mono ?_
  rintro e w1 ⟨v, rfl, hown, hb1⟩
  obtain ⟨g, cap, rfl, hcap, hcm, hg, hgb, hcell⟩ := row_form hown (by simp [splitL])
  have h0 := hcell 0 (by simp [splitL])
  simp only [splitL, List.getElem_cons_zero] at h0
  simp only [splitL, List.length_singleton] at *
  clear hown hcell
  go_wp2_with fail
  go_ret
  exact ⟨rfl, hb1⟩

set_option maxRecDepth 100000 in
set_option maxHeartbeats 1000000 in
theorem refGood_main (r : List UInt8) (w : World) (hl : r.length + 1 ≤ 200) (hr : r ≠ []) :
    Calls Tryz.prog 72 #[.string ⟨(47 :: r).toArray⟩] w fun e w' => e = .returned (.bool ((splitL r).all namedB)) ∧ Below w.heap.size w w' := by
  have hz : (ByteArray.mk (47 :: r).toArray).size = r.length + 1 := Lib.size_eq ⟨(47 :: r).toArray⟩
  have hr1 : ((47 :: r) == [47]) = false := by
    rw [beq_eq_false_iff_ne]; intro h; simp at h; exact hr h
  have hcnt := splitL_count' r
  have hlen := splitL_length r
  have hsteps := refSteps_any (47 :: r) w (by simp; omega)
  rw [splitL_slash] at hsteps
  generalize 47 :: r = l at *
  generalize splitL r = ps at *
  go_enter Tryz.func72, Tryz.ntmps72
  go_wp2_with fail
  refine hsteps.mono ?_
  clear hsteps
  rintro e w1 ⟨v, rfl, hown, hb1⟩
  obtain ⟨g, cap, rfl, hcap, hcm, hg, hgb, hcell⟩ := row_form hown (by simp)
  have h0 := hcell 0 (by simp)
  simp only [List.getElem_cons_zero] at h0
  have Hcell : Hid (∀ j (hj : j < ps.length), w1.cell? ⟨g, 1 + j, none⟩ = some (.string ⟨ps[j].toArray⟩)) := hide (fun j hj => by
    have h := hcell (1 + j) (by simp; omega)
    rw [h]
    simp [Nat.add_comm 1 j])
  clear hown hcell
  simp only [List.length_cons] at hcap ⊢
  have hm1 : (0 : Int) < (ps.length : Int) + 1 := by omega
  have hm2 : ¬ (ps.length : Int) + 1 < 2 := by omega
  unfold maxLen at hcm
  have Hlen := hide hlen
  clear hlen
  go_wp2_with fail
  clear h0 hm1 hm2 hcap hcm hz hr1
  go_loopw [27] (fun i wr => ∃ j : Nat, j ≤ ps.length ∧ i = .int .i64 j ∧ (ps.take j).all namedB = true ∧ Below w1.heap.size w1 wr) (fun i _ => ps.length - (intOf i).toNat)
  case atStart => exact ⟨0, Nat.zero_le _, rfl, by simp, Below.refl _ _⟩
  case round =>
    obtain ⟨j, hj, rfl, hall, hBr⟩ := hrel
    have Hall := hide hall
    clear hall
    by_cases hjl : j < ps.length
    · have hc : wr.cell? ⟨g, 1 + j, none⟩ = some (.string ⟨ps[j].toArray⟩) := (hBr.cell (p := ⟨g, 1 + j, none⟩) hg).trans (unhide Hcell j hjl)
      have hpl : ps[j].length ≤ 200 := by have := unhide Hlen ps[j] (List.getElem_mem hjl); omega
      have Htk := hide (List.take_succ_eq_append_getElem hjl)
      have Hmem := hide (List.getElem_mem hjl)
      generalize ps[j] = x at hc hpl Htk Hmem
      go_wp2_with fail
      refine (refNamed_any x _ (by omega)).mono ?_
      rintro e w2 ⟨rfl, hb2⟩
      have hBn : Below w1.heap.size w1 w2 := hBr.trans (hb2.mono hBr.size)
      clear hb2 hBr hc
      cases hx : namedB x
      · have Hx := hide hx
        clear hx
        go_wp2_with fail
        go_ret
        refine ⟨ret_bool ?_, hb1.trans (hBn.mono hb1.size)⟩
        symm
        rw [List.all_eq_false]
        exact ⟨x, unhide Hmem, by simp [unhide Hx]⟩
      · have Hx := hide hx
        clear hx
        go_wp2_with fail
        exact ⟨⟨j + 1, by omega, by go_num, by rw [unhide Htk, List.all_append, unhide Hall]; simp [unhide Hx], hBn⟩, by simp [intOf]; omega⟩
    · have hje : j = ps.length := by omega
      subst hje
      rw [List.take_length] at Hall
      go_wp2_with fail
      go_ret
      exact ⟨ret_bool (unhide Hall).symm, hb1.trans (hBr.mono hb1.size)⟩

/-- WHAT aviaryref.GoodPath ANSWERS -/
theorem refGood_any (l : List UInt8) (w : World) (hl : l.length ≤ 1048576) :
    Calls Tryz.prog 72 #[.string ⟨l.toArray⟩] w fun e w' => e = .returned (.bool (goodB l)) ∧ Below w.heap.size w w' := by
  by_cases h200 : 200 < l.length
  · rw [goodB_long h200]; exact refGood_long l w hl h200
  · cases l with
    | nil => rw [goodB_nil]; exact refGood_none w
    | cons c r =>
      by_cases hc : c = 47
      · subst hc
        by_cases hr : r = []
        · subst hr; rw [goodB_root]; exact refGood_root w
        · simp at h200
          rw [goodB_cons r hr, decide_eq_true (by omega), Bool.true_and]
          exact refGood_main r w (by omega) hr
      · rw [goodB_other hc]; exact refGood_first c r w (by omega) hc

end Go.Proofs.YtfejpbkapikdiaaGreatDoor

namespace Go.Proofs.YtfejpbkapikdiaaGreatDoor
open Go.RowKit

def flat (ps : List (List UInt8)) : List UInt8 := ps.flatMap (fun p => 47 :: p)
theorem flat_split : ∀ l : List UInt8, flat (splitL l) = 47 :: l
  | [] => rfl
  | c :: l => by
    have ih := flat_split l
    by_cases hc : c = 47
    · subst hc; rw [splitL_slash]; simp only [flat, List.flatMap_cons] at ih ⊢; rw [ih]; rfl
    · cases hl : splitL l with
      | nil => exact absurd hl (splitL_ne l)
      | cons p ps =>
        rw [splitL_other hc hl]
        rw [hl] at ih
        simp only [flat, List.flatMap_cons, List.cons_append, List.cons.injEq, true_and] at ih ⊢
        exact ih
theorem flat_snoc (ps : List (List UInt8)) (x : List UInt8) : flat (ps ++ [x]) = flat ps ++ ([47] ++ x) := by simp [flat]
theorem flat_take_le (qs : List (List UInt8)) (j : Nat) : (flat (qs.take j)).length ≤ (flat qs).length := by
  have h : flat qs = flat (qs.take j) ++ flat (qs.drop j) := by
    unfold flat
    rw [← List.flatMap_append, List.take_append_drop]
  rw [h]; simp
/-- the pieces of a path: nothing ahead of its first slash, what its parent is made of, its last step -/
theorem path_pieces {a b : List UInt8} (hb : 47 ∉ b) (hg : goodB (a ++ 47 :: b) = true) : ∃ qs, splitL (a ++ 47 :: b) = [] :: (qs ++ [b]) ∧ flat qs = a := by
  rw [splitL_tail a b hb]
  cases a with
  | nil => exact ⟨[], rfl, rfl⟩
  | cons c a =>
    obtain ⟨t, ht⟩ := goodB_slash hg
    simp only [List.cons_append, List.nil_append, List.cons.injEq] at ht
    obtain ⟨rfl, _⟩ := ht
    rw [splitL_slash]
    exact ⟨splitL a, rfl, flat_split a⟩

theorem val_cat (f x : List UInt8) : Value.string ((ByteArray.mk f.toArray) ++ ((ByteArray.mk #[47]) ++ (ByteArray.mk x.toArray))) = .string ⟨(f ++ ([47] ++ x)).toArray⟩ := by
  rw [show (ByteArray.mk #[47]) ++ (ByteArray.mk x.toArray) = ⟨([47] ++ x).toArray⟩ from cat_one [47] x, cat_one]

set_option maxRecDepth 10000 in
set_option maxHeartbeats 400000 in
theorem refSplit_bad (l : List UInt8) (w : World) (hl : l.length ≤ 1048576) (hg : goodB l = false) :
    Calls Tryz.prog 48 #[.string ⟨l.toArray⟩] w fun e w' => e = .returned (.tuple #[.string ⟨#[]⟩, .string ⟨#[]⟩, .int .i64 2]) ∧ Below w.heap.size w w' := by
  have Hg := hide hg
  clear hg
  go_enter Tryz.func48, Tryz.ntmps48
  go_wp2_with fail
  refine (refGood_any l _ hl).mono ?_
  rintro e w1 ⟨rfl, hb1⟩
  rw [unhide Hg]
  go_wp2_with fail
  go_ret3
  exact ⟨rfl, hb1⟩

set_option maxRecDepth 10000 in
set_option maxHeartbeats 400000 in
theorem refSplit_root (w : World) :
    Calls Tryz.prog 48 #[.string ⟨#[47]⟩] w fun e w' => e = .returned (.tuple #[.string ⟨#[]⟩, .string ⟨#[]⟩, .int .i64 7]) ∧ Below w.heap.size w w' := by
  go_enter Tryz.func48, Tryz.ntmps48
  go_wp2_with fail
  refine (refGood_any [47] _ (by decide)).mono ?_
  rintro e w1 ⟨rfl, hb1⟩
  rw [goodB_root]
  go_wp2_with fail
  go_ret3
  exact ⟨rfl, hb1⟩

set_option maxRecDepth 100000 in
set_option maxHeartbeats 1000000 in
theorem refSplit_main (a b : List UInt8) (w : World) (hb : 47 ∉ b) (hg : goodB (a ++ 47 :: b) = true) (hne : a ++ 47 :: b ≠ [47]) :
    Calls Tryz.prog 48 #[.string ⟨(a ++ 47 :: b).toArray⟩] w fun e w' =>
      e = .returned (.tuple #[.string ⟨(dirL a).toArray⟩, .string ⟨b.toArray⟩, .int .i64 0]) ∧ Below w.heap.size w w' := by
  obtain ⟨qs, hsp, hfl⟩ := path_pieces hb hg
  have hl : (a ++ 47 :: b).length ≤ 200 := goodB_le hg
  have hal : (flat qs).length ≤ 200 := by rw [hfl]; simp at hl; omega
  have hne1 : (a ++ 47 :: b == [47]) = false := by simpa using hne
  have hst : ∀ W : World, Calls Tryz.prog 75 #[.string ⟨(a ++ 47 :: b).toArray⟩] W fun e w' =>
      ∃ v, e = .returned v ∧ w'.ownsRow W.heap.size 9 1 v (qs.length + 1 + 1) (([] :: (qs ++ [b])).map strV) ∧ Below W.heap.size W w' := by
    intro W
    have h := refSteps_any (a ++ 47 :: b) W (by omega)
    rw [hsp, show ([] :: (qs ++ [b])).length = qs.length + 1 + 1 from by simp] at h
    exact h
  have Hst := hide hst
  have Hg := hide hg
  have Hfl := hide hfl
  have hql : qs.length ≤ 200 := by
    have h := splitL_count' (a ++ 47 :: b)
    rw [hsp] at h
    simp at h hl
    omega
  clear hst hg hne hb hsp hfl
  generalize a ++ 47 :: b = l at *
  go_enter Tryz.func48, Tryz.ntmps48
  go_wp2_with fail
  refine (refGood_any l _ (by omega)).mono ?_
  rintro e w1 ⟨rfl, hb1⟩
  rw [unhide Hg]
  go_wp2_with fail
  refine (unhide Hst _).mono ?_
  clear Hst
  rintro e w2 ⟨v, rfl, hown, hb2⟩
  replace hb2 := below_next hb1 hb2
  clear hb1
  obtain ⟨g, cap, rfl, hcap, hcm, hgl, hgb, hcell⟩ := row_form hown (by omega)
  have Hcell : Hid (∀ j (hj : j < qs.length), w2.cell? ⟨g, 1 + j, none⟩ = some (.string ⟨qs[j].toArray⟩)) := hide (fun j hj => by
    rw [hcell (1 + j) (by simp; omega)]
    simp [Nat.add_comm 1 j, List.getElem_append_left hj])
  have hlast : w2.cell? ⟨g, qs.length + 1, none⟩ = some (.string ⟨b.toArray⟩) := by
    rw [hcell (qs.length + 1) (by simp)]; simp
  clear hown hcell
  unfold maxLen at hcm
  have hq0 : (0 : Int) ≤ (qs.length : Int) := by omega
  have hq1 : (qs.length : Int) ≤ 200 := by omega
  have hq2 : (qs.length : Int) + 1 < (qs.length : Int) + 1 + 1 := by omega
  go_wp2_with fail
  go_loop [7, 24] (fun t i => ∃ j : Nat, j ≤ qs.length ∧ i = .int .i64 j ∧ t = .string ⟨(flat (qs.take j)).toArray⟩) (fun _ i => qs.length - (intOf i).toNat)
  case atStart => exact ⟨0, Nat.zero_le _, rfl, rfl⟩
  case round =>
    obtain ⟨j, hj, rfl, rfl⟩ := hrel
    have hft := flat_take_le qs j
    by_cases hjl : j < qs.length
    · have hc := unhide Hcell j hjl
      have Htk : Hid (flat (qs.take (j + 1)) = flat (qs.take j) ++ ([47] ++ qs[j])) := hide (by rw [List.take_succ_eq_append_getElem hjl, flat_snoc])
      have hxl : qs[j].length ≤ 200 := by
        have h := flat_take_le qs (j + 1)
        rw [unhide Htk] at h
        simp at h
        omega
      generalize qs[j] = x at hc Htk hxl
      generalize flat (qs.take j) = f at hft Htk ⊢
      have hz1 : (ByteArray.mk x.toArray).size = x.length := Lib.size_eq ⟨x.toArray⟩
      have hz2 : (ByteArray.mk f.toArray).size = f.length := Lib.size_eq ⟨f.toArray⟩
      go_wp2
      go_round
      case rel => exact ⟨j + 1, by omega, by go_num, by rw [unhide Htk]; exact val_cat f x⟩
      case measure => simp [intOf]; omega
    · have hje : j = qs.length := by omega
      subst hje
      rw [List.take_length, unhide Hfl]
      cases he : a.isEmpty
      · have Hd : Hid (dirL a = a) := hide (dirL_other (by rintro rfl; simp at he))
        go_wp2
        go_region
        all_goals go_wp2
        all_goals go_ret3
        all_goals exact ⟨ret_three (by rw [unhide Hd]) rfl rfl, by repeat (first | exact hb2 | apply Below.drew)⟩
      · obtain rfl : a = [] := by simpa using he
        go_wp2
        go_region
        all_goals go_wp2
        all_goals go_ret3
        all_goals exact ⟨ret_three (by rw [dirL_nil]) rfl rfl, by repeat (first | exact hb2 | apply Below.drew)⟩

end Go.Proofs.YtfejpbkapikdiaaGreatDoor

namespace Go.Proofs.YtfejpbkapikdiaaGreatDoor
open Go.RowKit

/-- aviaryref.Split, at every text that is not too long -/
theorem rsplit_any (p : List UInt8) (w : World) (hl : p.length ≤ 1048576) :
    Calls Tryz.prog 48 #[.string ⟨p.toArray⟩] w fun e w' =>
      e = .returned (.tuple #[.string ⟨(dirOf p).toArray⟩, .string ⟨(stepOf p).toArray⟩, .int .i64 (splE p)]) ∧ Below w.heap.size w w' := by
  cases hg : goodB p with
  | false =>
    rw [dirOf_bad hg, stepOf_bad hg, splE_bad hg]
    exact refSplit_bad p w hl hg
  | true =>
    by_cases hr : p = [47]
    · subst hr
      rw [dirOf_root, stepOf_root, splE_root]
      exact refSplit_root w
    · obtain ⟨a, b, rfl, hb⟩ := good_cut hg
      rw [dirOf_cut hg hr hb, stepOf_cut hg hr hb, splE_ok hg hr]
      exact refSplit_main a b w hb hg hr

end Go.Proofs.YtfejpbkapikdiaaGreatDoor

namespace Go.Proofs.YtfejpbkapikdiaaGreatDoor
open Go.RowKit

/-- two boxes of trees -/
structure TT (w W : World) (z : Int) (vn vs un us : Value) : Prop where
  a : W.heap[w.heap.size]? = some (.cells #[.int .i64 z, vn, vs] 31 (0, 0))
  b : W.heap[w.heap.size + 1]? = some (.cells #[.int .i64 z, un, us] 31 (0, 0))
  bl : Below w.heap.size w W
theorem TT.new (w : World) (z : Int) (vn vs un us : Value) : TT w ((w.alloc (.cells #[.int .i64 z, vn, vs] 31)).alloc (.cells #[.int .i64 z, un, us] 31)) z vn vs un us := by
  refine ⟨?_, ?_, nnext (allocB _ _) (allocB _ _)⟩
  · rw [(allocB _ _).block _ (by simp)]
    exact heap_alloc_new w _
  · have h := heap_alloc_new (w.alloc (.cells #[.int .i64 z, vn, vs] 31)) (.cells #[.int .i64 z, un, us] 31)
    rw [show (w.alloc (.cells #[.int .i64 z, vn, vs] 31)).heap.size = w.heap.size + 1 by simp] at h
    exact h
theorem TT.next {w W V : World} {z : Int} {vn vs un us : Value} (h : TT w W z vn vs un us) (hb : Below W.heap.size W V) : TT w V z vn vs un us :=
  ⟨(hb.block _ (Array.getElem?_eq_some_iff.1 h.a).1).trans h.a, (hb.block _ (Array.getElem?_eq_some_iff.1 h.b).1).trans h.b, nnext h.bl hb⟩
theorem TT.six {w W : World} {z : Int} {vn vs un us : Value} (h : TT w W z vn vs un us) : W.cell? ⟨w.heap.size, 0, none⟩ = some (.int .i64 z) ∧ W.cell? ⟨w.heap.size, 1, none⟩ = some vn ∧ W.cell? ⟨w.heap.size, 2, none⟩ = some vs ∧ W.cell? ⟨w.heap.size + 1, 0, none⟩ = some (.int .i64 z) ∧ W.cell? ⟨w.heap.size + 1, 1, none⟩ = some un ∧ W.cell? ⟨w.heap.size + 1, 2, none⟩ = some us := by
  have h1 := h.a
  have h2 := h.b
  refine ⟨?_, ?_, ?_, ?_, ?_, ?_⟩ <;> simp [World.cell?, h1, h2]

set_option maxRecDepth 20000 in
set_option maxHeartbeats 4000000 in
theorem rsameT_any (t : Tr) (vn vs un us : Value) (w : World) (hn : SeqV w vn t.ns) (hs : SeqV w vs t.ss) (gn : SeqV w un t.ns) (gs : SeqV w us t.ss) (hl : t.ns.length ≤ 140737488355328) (hls : t.ss.length ≤ 140737488355328) :
    Calls Tryz.prog 22 #[.agg #[.int .i64 t.z, vn, vs], .agg #[.int .i64 t.z, un, us]] w fun e w' => e = .returned (.bool true) ∧ Below w.heap.size w w' := by
  have K : ∀ {α : Type} [Lay α] (v : Value) (xs : List α), SeqV w v xs → ∀ W, Below w.heap.size w W → ∀ (i : Nat) (x : α), xs[i]? = some x → ∃ b off c, v = .slice (some ⟨b, off, none⟩) xs.length c ∧ b < w.heap.size ∧ RowAt W b off (cellsL xs) := by
    intro α _ v xs hv W hW i x hx
    obtain ⟨b, off, c, e, hb, hr, _, _⟩ := seq_row hv (by intro h0; rw [h0] at hx; simp at hx)
    exact ⟨b, off, c, e, hb, hr.kept hW hb⟩
  have K1 := hide (K vn t.ns hn)
  have K2 := hide (K un t.ns gn)
  have K3 := hide (K vs t.ss hs)
  have K4 := hide (K us t.ss gs)
  have T0 := hide (TT.new w t.z vn vs un us)
  obtain ⟨na, nc, rfl⟩ := seq_slice hn
  obtain ⟨sa, sc, rfl⟩ := seq_slice hs
  obtain ⟨ma, mc, rfl⟩ := seq_slice gn
  obtain ⟨ra, rc, rfl⟩ := seq_slice gs
  clear hn hs gn gs K
  go_enter Tryz.func22, Tryz.ntmps22
  go_wp2_with fail
  go_loopg [33] t.ns.length (fun kx s33 wr => ∃ k : Nat, s33 = .int .i64 k ∧ k ≤ t.ns.length ∧ t.ns.length - k ≤ kx ∧ Hid (TT w wr t.z (.slice na t.ns.length nc) (.slice sa t.ss.length sc) (.slice ma t.ns.length mc) (.slice ra t.ss.length rc)))
  case atStart => exact ⟨0, rfl, Nat.zero_le _, Nat.le_refl _, T0⟩
  case round =>
    obtain ⟨k, rfl, hk, hg, hT⟩ := hrel
    obtain ⟨c0, c1, c2, c3, c4, c5⟩ := (unhide hT).six
    have hsz := (unhide hT).bl.size
    by_cases hlt : k < t.ns.length
    · obtain ⟨x, hx⟩ : ∃ x, t.ns[k]? = some x := ⟨_, List.getElem?_eq_getElem hlt⟩
      obtain ⟨b1, o1, cc1, he, hb1, q1⟩ := unhide K1 wr (unhide hT).bl k x hx
      simp only [Value.slice.injEq] at he
      obtain ⟨rfl, _, rfl⟩ := he
      obtain ⟨b2, o2, cc2, he, hb2, q2⟩ := unhide K2 wr (unhide hT).bl k x hx
      simp only [Value.slice.injEq] at he
      obtain ⟨rfl, _, rfl⟩ := he
      have d0 := q1.n0 hx
      have d1 := q1.n1 hx
      have d2 := q1.n2 hx
      have d3 := q1.n3 hx
      have d4 := q1.n4 hx
      have d5 := q1.n5 hx
      have d6 := q1.n6 hx
      have d7 := q1.n7 hx
      have d8 := q1.n8 hx
      have r0 := q2.n0 hx
      have r1 := q2.n1 hx
      have r2 := q2.n2 hx
      have r3 := q2.n3 hx
      have r4 := q2.n4 hx
      have r5 := q2.n5 hx
      have r6 := q2.n6 hx
      have r7 := q2.n7 hx
      have r8 := q2.n8 hx
      clear q1 q2 hx
      go_wp2_with fail
      go_region
      go_wp2_with fail
      go_roundg (t.ns.length - (k + 1))
      case measure => omega
      case rel => exact ⟨k + 1, rfl, by omega, Nat.le_refl _, hide ((unhide hT).next (Below.refl _ _).drew)⟩
    · obtain rfl : k = t.ns.length := by omega
      go_wp2_with fail
      go_loopg [51] t.ss.length (fun kx s51 wr => ∃ k : Nat, s51 = .int .i64 k ∧ k ≤ t.ss.length ∧ t.ss.length - k ≤ kx ∧ Hid (TT w wr t.z (.slice na t.ns.length nc) (.slice sa t.ss.length sc) (.slice ma t.ns.length mc) (.slice ra t.ss.length rc)))
      case atStart => exact ⟨0, rfl, Nat.zero_le _, Nat.le_refl _, hT⟩
      case round =>
        obtain ⟨k, rfl, hk, hg, hT⟩ := hrel
        obtain ⟨c0, c1, c2, c3, c4, c5⟩ := (unhide hT).six
        by_cases hlt : k < t.ss.length
        · obtain ⟨x, hx⟩ : ∃ x, t.ss[k]? = some x := ⟨_, List.getElem?_eq_getElem hlt⟩
          obtain ⟨b1, o1, cc1, he, hb1, q1⟩ := unhide K3 wr (unhide hT).bl k x hx
          simp only [Value.slice.injEq] at he
          obtain ⟨rfl, _, rfl⟩ := he
          obtain ⟨b2, o2, cc2, he, hb2, q2⟩ := unhide K4 wr (unhide hT).bl k x hx
          simp only [Value.slice.injEq] at he
          obtain ⟨rfl, _, rfl⟩ := he
          have d0 := q1.i0 hx
          have r0 := q2.i0 hx
          clear q1 q2 hx
          go_wp2_with fail
          go_region
          go_wp2_with fail
          go_roundg (t.ss.length - (k + 1))
          case measure => omega
          case rel => exact ⟨k + 1, rfl, by omega, Nat.le_refl _, hide ((unhide hT).next (Below.refl _ _).drew)⟩
        · obtain rfl : k = t.ss.length := by omega
          go_wp2_with fail
          go_ret
          exact ⟨rfl, (unhide hT).bl⟩

end Go.Proofs.YtfejpbkapikdiaaGreatDoor

namespace Go.Proofs.YtfejpbkapikdiaaGreatDoor
open Go.RowKit

/-- the tree and the events under way: two boxes, three rows of the call's own -/
structure RG (W : World) (F : Nat → Prop) (bo be : Nat) (z : Int) (vn vs ve : Value) (ns : List Nd) (ss : List Int) (es : List Ev) : Prop where
  o : W.heap[bo]? = some (.cells #[.int .i64 z, vn, vs] 31 (0, 0))
  v : W.heap[be]? = some (.cells #[ve] 46 (0, 0))
  oe : bo ≠ be
  fo : F bo
  fv : F be
  n : OwnS W 0 vn ns
  s : OwnS W 0 vs ss
  e : OwnS W 0 ve es
  kn : ∀ k, vn.ownBlock = some k → F k ∧ k ≠ bo ∧ k ≠ be ∧ vs.ownBlock ≠ some k ∧ ve.ownBlock ≠ some k
  ks : ∀ k, vs.ownBlock = some k → F k ∧ k ≠ bo ∧ k ≠ be ∧ ve.ownBlock ≠ some k
  ke : ∀ k, ve.ownBlock = some k → F k ∧ k ≠ bo ∧ k ≠ be
section
variable {W V : World} {F : Nat → Prop} {bo be : Nat} {z : Int} {vn vs ve : Value} {ns : List Nd} {ss : List Int} {es : List Ev}
theorem RG.lo (h : RG W F bo be z vn vs ve ns ss es) : bo < W.heap.size := (Array.getElem?_eq_some_iff.1 h.o).1
theorem RG.le (h : RG W F bo be z vn vs ve ns ss es) : be < W.heap.size := (Array.getElem?_eq_some_iff.1 h.v).1
theorem RG.next (h : RG W F bo be z vn vs ve ns ss es) (hb : Below W.heap.size W V) : RG V F bo be z vn vs ve ns ss es :=
  ⟨(hb.block _ h.lo).trans h.o, (hb.block _ h.le).trans h.v, h.oe, h.fo, h.fv, h.n.next hb, h.s.next hb, h.e.next hb, h.kn, h.ks, h.ke⟩
theorem RG.c0 (h : RG W F bo be z vn vs ve ns ss es) : W.cell? ⟨bo, 0, none⟩ = some (.int .i64 z) := by simp [World.cell?, h.o]
theorem RG.c1 (h : RG W F bo be z vn vs ve ns ss es) : W.cell? ⟨bo, 1, none⟩ = some vn := by simp [World.cell?, h.o]
theorem RG.c2 (h : RG W F bo be z vn vs ve ns ss es) : W.cell? ⟨bo, 2, none⟩ = some vs := by simp [World.cell?, h.o]
theorem RG.ce (h : RG W F bo be z vn vs ve ns ss es) : W.cell? ⟨be, 0, none⟩ = some ve := by simp [World.cell?, h.v]
theorem RG.fzo (h : RG W F bo be z vn vs ve ns ss es) (j : Nat) : W.frozen? ⟨bo, j, none⟩ = false := by simp [World.frozen?, h.o]
theorem RG.fze (h : RG W F bo be z vn vs ve ns ss es) (j : Nat) : W.frozen? ⟨be, j, none⟩ = false := by simp [World.frozen?, h.v]
/-- new events -/
theorem RG.ev {ve' : Value} {es' : List Ev} (h : RG W F bo be z vn vs ve ns ss es) (hF : ∀ k, W.heap.size ≤ k → F k) (hg : W.grownBy V ve.ownBlock) (he : OwnS V 0 ve' es') (hl : ve'.ownBlock = ve.ownBlock ∨ ve'.ownBlock = some W.heap.size) :
    RG (V.setCell ⟨be, 0, none⟩ ve') F bo be z vn vs ve' ns ss es' := by
  have hlo := h.lo
  have hle := h.le
  have nbe : some be ≠ ve.ownBlock := fun e => (h.ke be e.symm).2.2 rfl
  have nbo : some bo ≠ ve.ownBlock := fun e => (h.ke bo e.symm).2.1 rfl
  have hk : ∀ k, ve'.ownBlock = some k → F k ∧ k ≠ bo ∧ k ≠ be ∧ vn.ownBlock ≠ some k ∧ vs.ownBlock ≠ some k := by
    intro k hk
    rcases hl with e | e
    · rw [e] at hk
      obtain ⟨h1, h2, h3⟩ := h.ke k hk
      exact ⟨h1, h2, h3, fun hn => (h.kn k hn).2.2.2.2 hk, fun hs => (h.ks k hs).2.2.2 hk⟩
    · rw [e] at hk
      cases hk
      exact ⟨hF _ (Nat.le_refl _), by omega, by omega, fun hn => by have := h.n.low _ hn; omega, fun hs => by have := h.s.low _ hs; omega⟩
  refine ⟨?_, ?_, h.oe, h.fo, h.fv, ?_, ?_, ?_, fun k hn => ⟨(h.kn k hn).1, (h.kn k hn).2.1, (h.kn k hn).2.2.1, (h.kn k hn).2.2.2.1, fun e => (hk k e).2.2.2.1 hn⟩, fun k hs => ⟨(h.ks k hs).1, (h.ks k hs).2.1, (h.ks k hs).2.2.1, fun e => (hk k e).2.2.2.2 hs⟩, fun k he => ⟨(hk k he).1, (hk k he).2.1, (hk k he).2.2.1⟩⟩
  · exact (Below.heap_setCell V ⟨be, 0, none⟩ ve' bo h.oe).trans ((hg.block bo hlo nbo).trans h.o)
  · rw [block_set ve' ((hg.block be hle nbe).trans h.v)]
    rfl
  · exact (h.n.grown hg (fun k hn e => (h.kn k hn).2.2.2.2 e.symm)).other (fun e => (h.kn be e).2.2.1 rfl) _
  · exact (h.s.grown hg (fun k hs e => (h.ks k hs).2.2.2 e.symm)).other (fun e => (h.ks be e).2.2.1 rfl) _
  · exact he.other (fun e => (hk be e).2.2.1 rfl) _
/-- new nodes, in a new row -/
theorem RG.nd {vn' : Value} {ns' : List Nd} (h : RG W F bo be z vn vs ve ns ss es) (hF : ∀ k, W.heap.size ≤ k → F k) (hb : Below W.heap.size W V) (hn : OwnS V W.heap.size vn' ns') : RG (V.setCell ⟨bo, 1, none⟩ vn') F bo be z vn' vs ve ns' ss es := by
  have hlo := h.lo
  have hle := h.le
  have g := h.next hb
  have ha := fun k (hk : vn'.ownBlock = some k) => (show W.heap.size ≤ k by
    rcases hn with ⟨rfl, _⟩ | ⟨q, cap, rfl, h1, _⟩
    · cases hk
    · simp only [Value.ownBlock, Option.some.injEq] at hk; omega)
  refine ⟨?_, (Below.heap_setCell V ⟨bo, 1, none⟩ vn' be (fun e => h.oe e.symm)).trans g.v, h.oe, h.fo, h.fv, (hn.lower (Nat.zero_le _)).other (fun e => by have := ha bo e; omega) _, g.s.other (fun e => (h.ks bo e).2.1 rfl) _, g.e.other (fun e => (h.ke bo e).2.1 rfl) _, fun k hk => ?_, h.ks, h.ke⟩
  · rw [block_set vn' g.o]
    rfl
  · have := ha k hk
    exact ⟨hF k this, by omega, by omega, fun e => by have := h.s.low _ e; omega, fun e => by have := h.e.low _ e; omega⟩
/-- new sessions, in a new row -/
theorem RG.se {vs' : Value} {ss' : List Int} (h : RG W F bo be z vn vs ve ns ss es) (hF : ∀ k, W.heap.size ≤ k → F k) (hb : Below W.heap.size W V) (hs : OwnS V W.heap.size vs' ss') : RG (V.setCell ⟨bo, 2, none⟩ vs') F bo be z vn vs' ve ns ss' es := by
  have hlo := h.lo
  have hle := h.le
  have g := h.next hb
  have ha := fun k (hk : vs'.ownBlock = some k) => (show W.heap.size ≤ k by
    rcases hs with ⟨rfl, _⟩ | ⟨q, cap, rfl, h1, _⟩
    · cases hk
    · simp only [Value.ownBlock, Option.some.injEq] at hk; omega)
  refine ⟨?_, (Below.heap_setCell V ⟨bo, 2, none⟩ vs' be (fun e => h.oe e.symm)).trans g.v, h.oe, h.fo, h.fv, g.n.other (fun e => (h.kn bo e).2.1 rfl) _, (hs.lower (Nat.zero_le _)).other (fun e => by have := ha bo e; omega) _, g.e.other (fun e => (h.ke bo e).2.1 rfl) _, fun k hk => ⟨(h.kn k hk).1, (h.kn k hk).2.1, (h.kn k hk).2.2.1, fun e => by have := ha k e; have := h.n.low k hk; omega, (h.kn k hk).2.2.2.2⟩, fun k hk => ?_, h.ke⟩
  · rw [block_set vs' g.o]
    rfl
  · have := ha k hk
    exact ⟨hF k this, by omega, by omega, fun e => by have := h.e.low _ e; omega⟩
/-- a cell of a node -/
theorem RG.put {g cap l : Nat} {A B : List Nd} {n m : Nd} (h : RG W F bo be z (.slice (some ⟨g, 0, none⟩) l cap) vs ve (A ++ n :: B) ss es) {c : Nat} (hc : c < 9) {v : Value} (hm : ncells m = (ncells n).set c v) :
    RG (W.setCell ⟨g, A.length * 9 + c, none⟩ v) F bo be z (.slice (some ⟨g, 0, none⟩) l cap) vs ve (A ++ m :: B) ss es := by
  obtain ⟨_, hgo, hge, hgs, hgv⟩ := h.kn g rfl
  refine ⟨(Below.heap_setCell W ⟨g, _, none⟩ v bo (fun e => hgo e.symm)).trans h.o, (Below.heap_setCell W ⟨g, _, none⟩ v be (fun e => hge e.symm)).trans h.v, h.oe, h.fo, h.fv, ?_, h.s.other (fun e => hgs e) _, h.e.other (fun e => hgv e) _, h.kn, h.ks, h.ke⟩
  rcases h.n with ⟨h1, _⟩ | ⟨g', cap', h1, h2, h3⟩
  · cases h1
  · simp only [Value.slice.injEq, Option.some.injEq, Addr.mk.injEq, and_true] at h1
    obtain ⟨rfl, rfl, rfl⟩ := h1
    exact .inr ⟨g, cap, by simp, h2, h3.set (c := c) (by exact hc) hm⟩
theorem RG.nrow (h : RG W F bo be z vn vs ve ns ss es) (h0 : ns ≠ []) : ∃ g cap, vn = .slice (some ⟨g, 0, none⟩) ns.length cap ∧ OwnR W g cap ns ∧ g ≠ bo ∧ g ≠ be ∧ F g := by
  rcases h.n with ⟨_, h1⟩ | ⟨g, cap, rfl, _, h3⟩
  · exact absurd h1 h0
  · exact ⟨g, cap, rfl, h3, (h.kn g rfl).2.1, (h.kn g rfl).2.2.1, (h.kn g rfl).1⟩
end
set_option maxRecDepth 10000 in

set_option maxHeartbeats 1000000 in
theorem rno_any (E : Int) (w : World) :
    Calls Tryz.prog 43 #[.int .i64 E] w fun r w' => r = .returned (.tuple #[.agg #[.int .i64 0, .slice none 0 0, .slice none 0 0], .slice none 0 0, .int .i64 E]) ∧ Below w.heap.size w w' := by
  go_enter Tryz.func43, Tryz.ntmps43
  go_wp2_with fail
  exact bodyPost_ret (v := .tuple #[.agg #[.int .i64 0, .slice none 0 0, .slice none 0 0], .slice none 0 0, .int .i64 E]) (by simp [results, Tryz.results43, go_sem]) rfl ⟨rfl, allocB _ _⟩

theorem one_newE (w : World) (k : Int) (p : List UInt8) : OneR (w.alloc (.cells #[.int .i64 k, .string ⟨p.toArray⟩] 60)) w.heap.size (⟨k, p⟩ : Ev) := heap_alloc_new w _
theorem wpList_app_ev1 {w : World} {ops : Array Oper} {rest : List Oper} {o : Oper} {a : Act} {Q : Exit → Act → World → Prop} (hgd : o.guard = none) (s x : Operand)
    (ho : o.op = .call { callee := .builtin .append, args := #[s, x], argTypes := #[46, 46] })
    (v : Value) (es : List Ev) (hs : a.eval s = v) (hown : OwnS w 0 v es) (q : Nat) (hx : a.eval x = .slice (some ⟨q, 0, none⟩) 1 1) (t : Ev) (hnews : OneR w q t) (hl : es.length ≤ 100000)
    (h : ∀ a' c' w', OwnS w' 0 (.slice a' (es.length + 1) c') (es ++ [t]) → w.grownBy w' v.ownBlock → ((Value.slice a' (es.length + 1) c').ownBlock = v.ownBlock ∨ (Value.slice a' (es.length + 1) c').ownBlock = some w.heap.size) → wpList Tryz.prog ops Q rest (a.put o.dst (.slice a' (es.length + 1) c')) w') :
    wpList Tryz.prog ops Q (o :: rest) a w := by
  refine wpList_plain hgd fun K hK => ?_
  obtain ⟨i0, hi0, hz0, hz1, hz2⟩ := einfo
  obtain ⟨v', w', hr, h2, h3, _, h5⟩ := run_append_own_at (P := Tryz.prog) w 0 46 o.type 60 i0 _ 2 24 Tryz.underlying46 hi0 hz0 hz1 hz2 rfl (by decide) v es.length (cellsL es) hown.row ⟨q, 0, none⟩ 1 1 (ecells t) rfl (one_news hnews) (Lay.one t) (by simp only [maxLen]; omega) (by omega) (Nat.zero_le _)
  have h2' : OwnS w' 0 v' (es ++ [t]) := OwnS.of_row (by rw [List.length_append, cellsL_snoc]; exact h2)
  obtain ⟨a', c', rfl, _⟩ := h2'.slice
  rw [List.length_append, List.length_singleton] at h2' hr h5
  unfold Oper.wp execOp
  simp only [ho, resolve, invoke, builtin, Sem.run_bind, Sem.run_pure, Result.andThen_ok, List.map_toArray, List.map_cons, List.map_nil, hs, hx, hr]
  exact hK _ _ (h a' c' w' h2' h3 h5)

end Go.Proofs.YtfejpbkapikdiaaGreatDoor

namespace Go.Proofs.YtfejpbkapikdiaaGreatDoor
open Go.RowKit

set_option maxRecDepth 20000 in
set_option maxHeartbeats 4000000 in
theorem rparent_any (F : Nat → Prop) (bo be bx : Nat) (z : Int) (vn vs ve : Value) (ns A B : List Nd) (u : Nd) (ss : List Int) (es : List Ev) (p : List UInt8) (more xz : Int) (w : World)
    (h : RG w F bo be z vn vs ve ns ss es) (hF : ∀ k, w.heap.size ≤ k → F k) (hx : w.cell? ⟨bx, 0, none⟩ = some (.int .i64 xz)) (hxl : bx < w.heap.size) (hxF : ¬ F bx) (T : NThere ns A u B (dirOf p)) (hl : ns.length ≤ 400) (hk : 0 ≤ u.k ∧ u.k ≤ 4294967296) (hn : 0 ≤ u.n ∧ u.n ≤ 1000) (hm : -1 ≤ more ∧ more ≤ 1) (hp : p.length ≤ 1048576) (hes : es.length ≤ 99999) :
    Calls Tryz.prog 49 #[.string ⟨p.toArray⟩, .int .i64 more, .pointer (some ⟨bo, 0, none⟩), .pointer (some ⟨bx, 0, none⟩), .pointer (some ⟨be, 0, none⟩)] w fun e w' => e = .returned (.tuple #[]) ∧ ∃ ve', RG w' F bo be z vn vs ve' (A ++ bump xz more u :: B) ss (es ++ [⟨4, dirOf p⟩]) ∧ Touch F w w' := by
  have CS := rsplit_any p w hp
  have CN := hide (fun W (hW : Below w.heap.size w W) => rnode_at z vn vs ns (dirOf p) A.length u W (h.n.next hW).seq (by omega) (at_there T))
  obtain ⟨g, cap, rfl, hr, hgo, hge, hFg⟩ := h.nrow (by rw [T.eq]; simp)
  have HG := hide h
  have HE := hide T.eq
  have HF := hide hF
  have HX := hide (fun W (hW : Below w.heap.size w W) => (hW.cell (p := ⟨bx, 0, none⟩) hxl).trans hx)
  have hlt : A.length < ns.length := by rw [T.eq]; simp
  have hgx : g ≠ bx := fun e => hxF (e ▸ hFg)
  obtain ⟨sa, sc, rfl, _⟩ := h.s.slice
  have hlti : (A.length : Int) < (ns.length : Int) := by omega
  clear h hr T hF hx
  go_enter Tryz.func49, Tryz.ntmps49
  go_wp2_with fail
  refine CS.mono ?_
  rintro e w1 ⟨rfl, hb1⟩
  have g1 := (unhide HG).next hb1
  have c0 := g1.c0
  have c1 := g1.c1
  have c2 := g1.c2
  have HB1 := hide hb1
  clear CS hb1 g1
  go_upto_region 1 with fail
  go_cut [10] from 11 (fun t10 wx => t10 = .pointer (some ⟨g, A.length * 9 + 2, none⟩) ∧ Hid (Below w1.heap.size w1 wx))
  case first =>
    go_region_law (go_simp; refine (unhide CN _ (by first | exact unhide HB1 | exact (unhide HB1).drew)).mono ?_; rintro e w2 ⟨rfl, hb2⟩; have HB2 : Hid (Below w1.heap.size w1 w2) := (by first | exact hb2 | exact nbelow_drew hb2); have g2 := (unhide HG).next (nnext (unhide HB1) (unhide HB2)); have e0 := g2.c0; have e1 := g2.c1; have e2 := g2.c2; clear hb2 g2)
    all_goals go_wp2_with fail
    all_goals go_meet
    all_goals exact ⟨rfl, HB2⟩
  case rest =>
    obtain ⟨rfl, HB2⟩ := hcut
    have HB02 := hide (nnext (unhide HB1) (unhide HB2))
    have g2 := (unhide HG).next (unhide HB02)
    have x0 := unhide HX wc (unhide HB02)
    obtain ⟨g', cap', he, hr, _, _, _⟩ := g2.nrow (by rw [unhide HE]; simp)
    simp only [Value.slice.injEq, Option.some.injEq, Addr.mk.injEq, and_true] at he
    obtain ⟨rfl, _, rfl⟩ := he
    have at' : ns[A.length]? = some u := by rw [unhide HE]; exact nat_at A u B
    have r4 := hr.row.n4 at'
    have r6 := hr.row.n6 at'
    have r8 := hr.row.n8 at'
    have z4 := hr.frozen (A.length * 9 + 4)
    have z6 := hr.frozen (A.length * 9 + 6)
    have z8 := hr.frozen (A.length * 9 + 8)
    rw [Nat.zero_add] at r4 r6 r8
    have WN := hide (show IntKind.i64.wrap (u.n + more) = u.n + more by rw [IntKind.wrap_i64]; omega)
    have WK := hide (show IntKind.i64.wrap (u.k + 1) = u.k + 1 by rw [IntKind.wrap_i64]; omega)
    have VN := hide (show wrap64 (u.n + more) = u.n + more by unfold wrap64; omega)
    have VK := hide (show wrap64 (u.k + 1) = u.k + 1 by unfold wrap64; omega)
    have Q4 : Hid (RG (((wc.setCell ⟨g, A.length * 9 + 8, none⟩ (.int .i64 (u.n + more))).setCell ⟨g, A.length * 9 + 6, none⟩ (.int .i64 (u.k + 1))).setCell ⟨g, A.length * 9 + 4, none⟩ (.int .i64 xz)) F bo be z (.slice (some ⟨g, 0, none⟩) ns.length cap) (.slice sa ss.length sc) ve (A ++ bump xz more u :: B) ss es ∧ Touch F w (((wc.setCell ⟨g, A.length * 9 + 8, none⟩ (.int .i64 (u.n + more))).setCell ⟨g, A.length * 9 + 6, none⟩ (.int .i64 (u.k + 1))).setCell ⟨g, A.length * 9 + 4, none⟩ (.int .i64 xz))) := hide (by
      have e0 := g2
      rw [unhide HE] at e0
      have e1 := e0.put (m := ⟨u.p, u.d, u.c, u.m, u.q, u.v, u.k, u.o, u.n + more⟩) (c := 8) (by omega) (v := .int .i64 (u.n + more)) rfl
      have e2 := e1.put (m := ⟨u.p, u.d, u.c, u.m, u.q, u.v, u.k + 1, u.o, u.n + more⟩) (c := 6) (by omega) (v := .int .i64 (u.k + 1)) rfl
      have e3 := e2.put (m := bump xz more u) (c := 4) (by omega) (v := .int .i64 xz) rfl
      rw [unhide HE]
      exact ⟨e3, (((Touch.of_below (unhide HB02)).trans (Touch.set (a := ⟨g, A.length * 9 + 8, none⟩) hFg _)).trans (Touch.set (a := ⟨g, A.length * 9 + 6, none⟩) hFg _)).trans (Touch.set (a := ⟨g, A.length * 9 + 4, none⟩) hFg _)⟩)
    clear at' g2 hr c0 c1 c2
    go_upto_region 2 with fail
    go_cut [10] from 11 (fun t10 wx => t10 = .pointer (some ⟨g, A.length * 9 + 2, none⟩) ∧ Hid (RG wx F bo be z (.slice (some ⟨g, 0, none⟩) ns.length cap) (.slice sa ss.length sc) ve (A ++ bump xz more u :: B) ss es ∧ Touch F w wx))
    case first =>
      clear CN HG HE HF HX HB1 HB2 HB02 hlti hlt hk hn hm hp hes hl
      go_region
      all_goals (first | rw [unhide WN, unhide WK] | rw [unhide VN, unhide VK])
      all_goals go_wp2_with fail
      all_goals go_meet
      all_goals exact ⟨rfl, hide ⟨(unhide Q4).1.next (Below.refl _ _).drew, (unhide Q4).2.drew⟩⟩
    case rest =>
      obtain ⟨rfl, hq⟩ := hcut
      have g3 := (unhide hq).1
      have HG3 := hide g3
      have HT3 := hide (unhide hq).2
      have ke := g3.ce
      have hle := g3.le
      have hws := (unhide HT3).size
      obtain ⟨ea, ec, rfl, _⟩ := g3.e.slice
      have K4 : Hid (∀ (w4 : World) (a4 : Option Addr) (c4 : Nat), OwnS w4 0 (.slice a4 (es.length + 1) c4) (es ++ [⟨4, dirOf p⟩]) → (wc.alloc (.cells #[.int .i64 4, .string ⟨(dirOf p).toArray⟩] 60)).grownBy w4 (Value.slice ea es.length ec).ownBlock → ((Value.slice a4 (es.length + 1) c4).ownBlock = (Value.slice ea es.length ec).ownBlock ∨ (Value.slice a4 (es.length + 1) c4).ownBlock = some (wc.alloc (.cells #[.int .i64 4, .string ⟨(dirOf p).toArray⟩] 60)).heap.size) →
          w4.cell? ⟨be, 0, none⟩ = some (.slice ea es.length ec) ∧ w4.frozen? ⟨be, 0, none⟩ = false ∧ be < w4.heap.size ∧ RG (w4.setCell ⟨be, 0, none⟩ (.slice a4 (es.length + 1) c4)) F bo be z (.slice (some ⟨g, 0, none⟩) ns.length cap) (.slice sa ss.length sc) (.slice a4 (es.length + 1) c4) (A ++ bump xz more u :: B) ss (es ++ [⟨4, dirOf p⟩]) ∧ Touch F w (w4.setCell ⟨be, 0, none⟩ (.slice a4 (es.length + 1) c4))) := hide (by
        intro w4 a4 c4 ho4 hg4 hl4
        have gx := (unhide HG3).next (allocB wc (.cells #[.int .i64 4, .string ⟨(dirOf p).toArray⟩] 60))
        have nbe : some be ≠ (Value.slice ea es.length ec).ownBlock := fun e => (gx.ke be e.symm).2.2 rfl
        have t4 : Touch F w w4 := ((unhide HT3).trans (Touch.of_below (allocB _ _))).trans (Touch.of_grown hg4 (fun k e => (gx.ke k e).1))
        exact ⟨hg4.cell gx.ce nbe, (World.frozen?_of_block (hg4.block be gx.le nbe)).trans (gx.fze 0), Nat.lt_of_lt_of_le gx.le hg4.size, gx.ev (fun k hk => unhide HF k (by simp at hk; omega)) hg4 ho4 hl4, t4.trans (Touch.set (a := ⟨be, 0, none⟩) gx.fv _)⟩)
      clear g3 hq Q4
      go_wp2_with (at_builtin; refine wpList_app_ev1 rfl _ _ rfl (.slice ea es.length ec) es rfl ((unhide HG3).e.next (allocB _ _)) wc.heap.size rfl ⟨4, dirOf p⟩ (one_newE wc 4 (dirOf p)) (by omega) ?_)
      intro a4 c4 w4 ho4 hg4 hl4
      obtain ⟨m0, m1, m3, g4, t4⟩ := unhide K4 w4 a4 c4 ho4 hg4 (by simpa using hl4)
      have HG4 := hide g4
      have HT4 := hide t4
      clear ho4 hg4 hl4 g4 t4
      go_wp2_with fail
      go_end0
      exact ⟨rfl, _, unhide HG4, unhide HT4⟩

end Go.Proofs.YtfejpbkapikdiaaGreatDoor
