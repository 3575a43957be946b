/-
  What slices.Clone at files, strings.Clone and disk.copied answer: the walks.
-/
import Derived.Test.YtbadhnmljlmefaaDGood
import Derived.Lib.SliceRun
import Derived.Lib.QuietBelow
import Derived.Deep.RegionHeld3
import Derived.BigQuiet
namespace Go.Proofs.Ytbadhnmljlmefaa
open Go.RowKit

set_option maxHeartbeats 400000 in
theorem clone_any (s : List UInt8) (w : World) (hs : s.length ≤ 281474976710656) :
    Calls Try.prog 35 #[.string ⟨s.toArray⟩] w fun e w' => e = .returned (.string ⟨s.toArray⟩) ∧ Below w.heap.size w w' := by
  have C := fun W => Try.stringslite_Clone ⟨s.toArray⟩ W (show (ByteArray.mk s.toArray).size ≤ _ from hs)
  go_enter Try.func35, Try.ntmps35
  go_wp2_with fail
  refine (C _).mono ?_
  rintro e w1 ⟨rfl, hb1⟩
  go_wp2_with fail
  go_ret
  exact ⟨rfl, hb1⟩

theorem info_file0 : (Try.prog.info? 41).map (fun i => (i.zero, i.size, i.bytes)) = some (some (.agg #[.string ⟨#[]⟩, .string ⟨#[]⟩, .string ⟨#[]⟩]), 3, 48) := by kernel_rfl
theorem info_file : ∃ i0, Try.prog.info? 41 = some i0 ∧ i0.zero = some (.agg #[.string ⟨#[]⟩, .string ⟨#[]⟩, .string ⟨#[]⟩]) ∧ i0.size = 3 ∧ i0.bytes = 48 := by
  obtain ⟨i0, h, e⟩ := Option.map_eq_some_iff.1 info_file0
  simp only [Prod.mk.injEq] at e
  exact ⟨i0, h, e⟩

set_option maxHeartbeats 2000000 in
theorem sclone_some (a : Addr) (cap : Nat) (fs : List DF) (w : World) (hl : fs.length ≤ 1000000) (hc : ∀ j u, (cellsF fs)[j]? = some u → w.cell? (a.add j) = some u) :
    Calls Try.prog 49 #[.slice (some a) fs.length cap] w fun e w' => ∃ v', e = .returned v' ∧ OwnV w' w.heap.size v' fs ∧ Below w.heap.size w w' := by
  have q22 : ∀ (w : World) (a : Option Addr) (n c n' c' : Nat), (binOp .eql 22 (.slice a n c) (.slice none n' c')).run Try.prog w = .ok (.bool a.isNone) w := fun w a n c n' c' => Lib.run_eql_slice_nil w _ _ a n c n' c' Try.underlying22
  have H : Hid (∀ j u, (cellsF fs)[j]? = some u → w.cell? (a.add j) = some u) := hc
  clear hc
  obtain ⟨i0, hi0, hz0, hz1, hz2⟩ := info_file
  go_enter Try.func49, Try.ntmps49
  go_wp2_with (at_builtin; refine wpList_append_own _ rfl _ _ 22 rfl w.heap.size 41 i0 _ 3 48 Try.underlying22 hi0 hz0 hz1 hz2 rfl (by decide) _ _ _ rfl (World.ownsRow_made w #[] 0 (Nat.le_refl _) (Nat.zero_le _) (by simp)) a fs.length cap (cellsF fs) rfl ?qc1 ?qc2 ?qc3 ?qc4 ?qc5 ?qc6 ?_)
  case qc1 => exact cellsF_length fs
  case qc2 =>
    intro j u hj
    exact Lib.cell?_alloc_some _ (H.out j u hj)
  case qc3 => exact cellsF_one fs
  case qc4 => simp only [maxLen]; omega
  case qc5 => omega
  case qc6 => simp
  intro v' w1 hown hgrow hnil
  go_wp2
  go_ret
  refine ⟨v', rfl, OwnV.of_row (by simpa using hown), ?_⟩
  exact ((Below.refl _ w).alloc (Nat.le_refl _) _).grown hgrow (by simp) (by intro k hk; simp [Value.ownBlock] at hk; omega)

set_option maxHeartbeats 400000 in
theorem sclone_nil (n c : Nat) (w : World) :
    Calls Try.prog 49 #[.slice none n c] w fun e w' => e = .returned (.slice none 0 0) ∧ w' = w := by
  have q22 : ∀ (w : World) (a : Option Addr) (n c n' c' : Nat), (binOp .eql 22 (.slice a n c) (.slice none n' c')).run Try.prog w = .ok (.bool a.isNone) w := fun w a n c n' c' => Lib.run_eql_slice_nil w _ _ a n c n' c' Try.underlying22
  go_enter Try.func49, Try.ntmps49
  go_wp2
  go_ret
  exact ⟨rfl, rfl⟩

theorem sclone_any (v : Value) (fs : List DF) (w : World) (hv : DiskV w v fs) (hl : fs.length ≤ 1000000) :
    Calls Try.prog 49 #[v] w fun e w' => ∃ v', e = .returned v' ∧ OwnV w' w.heap.size v' fs ∧ Below w.heap.size w w' := by
  rcases hv with ⟨a, cap, rfl, rfl, _⟩ | ⟨b, off, cap, rfl, _, _, hb, _, hr⟩
  · cases a with
    | none => exact (sclone_nil 0 cap w).mono fun e w' ⟨he, hw⟩ => ⟨_, he, .inl ⟨rfl, rfl⟩, by rw [hw]; exact Below.refl _ _⟩
    | some a => exact sclone_some a cap [] w (by simp) (fun j u h => by simp [cellsF] at h)
  · exact sclone_some ⟨b, off, none⟩ cap fs w hl (fun j u h => by rw [Addr.add_lit]; exact hr j u h)


theorem set_same {w : World} {a : Addr} {v : Value} (h : w.cell? a = some v) : w.setCell a v = w := by
  obtain ⟨heap, tape, drawn, os, output⟩ := w
  simp only [World.setCell, World.cell?] at *
  congr 1
  apply Array.ext_getElem?
  intro k
  rw [Array.getElem?_modify]
  by_cases hk : a.block = k
  · subst hk
    simp only [if_true]
    cases ho : heap[a.block]? with
    | none => rfl
    | some o =>
      rw [ho] at h
      cases o with
      | cells c e fz =>
        simp only at h
        by_cases hs : a.spot.isSome = true
        · simp [hs] at h
        · simp only [hs] at h
          simp [hs]
          have hlt : a.off < c.size := (Array.getElem?_eq_some_iff.1 (by simpa using h)).1
          have hv : c[a.off] = v := (Array.getElem?_eq_some_iff.1 (by simpa using h)).2
          rw [← hv]
          simp [Array.setIfInBounds, hlt]
      | _ => simp at h
  · simp [hk]

theorem below_next {w W V : World} (h : Below w.heap.size w W) (h' : Below W.heap.size W V) : Below w.heap.size w V := h.trans (h'.mono h.size)

set_option maxHeartbeats 1000000 in
theorem copied_any (v : Value) (fs : List DF) (w : World) (hv : DiskV w v fs) (hs : Slim fs) (hl : fs.length ≤ 16) :
    Calls Try.prog 33 #[.agg #[v]] w fun e w' => ∃ v', e = .returned (.agg #[v']) ∧ OwnV w' w.heap.size v' fs ∧ Below w.heap.size w w' := by
  have V : ∃ a n c, v = .slice a n c := by
    rcases hv with ⟨a, cap, rfl, _, _⟩ | ⟨b, off, cap, rfl, _⟩
    · exact ⟨_, _, _, rfl⟩
    · exact ⟨_, _, _, rfl⟩
  have HV := hide hv
  have HS := hide hs
  obtain ⟨a, n, c, rfl⟩ := V
  clear hv hs
  go_enter Try.func33, Try.ntmps33
  go_wp2_with fail
  refine (sclone_any _ fs _ ((unhide HV).next (((Below.refl _ _).alloc (Nat.le_refl _) _).alloc (by simp) _)) (by omega)).mono ?_
  rintro e w1 ⟨v', rfl, ho, hb1⟩
  have hB1 : Below w.heap.size w w1 := box_then (box_then hb1)
  have c1 : w1.cell? ⟨w.heap.size + 1, 0, none⟩ = some (.slice none 0 0) := by
    rw [hb1.cell (p := ⟨w.heap.size + 1, 0, none⟩) (by simp)]; simp
  have f1 : w1.frozen? ⟨w.heap.size + 1, 0, none⟩ = false := by
    rw [hb1.frozen (p := ⟨w.heap.size + 1, 0, none⟩) (by simp)]; simp
  have hz : w.heap.size + 1 < w1.heap.size := by have := hb1.size; simp at this; omega
  have hs2 : ((w.alloc (Obj.cells #[Value.slice a n c] 24)).alloc (Obj.cells #[Value.slice none 0 0] 24)).heap.size = w.heap.size + 2 := by simp
  rw [hs2] at ho
  clear hb1 hs2
  rcases ho with ⟨rfl, rfl⟩ | ⟨g, cap, rfl, hg, ho⟩
  · go_wp2_with fail
    go_loopg [11] 1 (fun _ s wr => s = .int .i64 0 ∧ wr = w1)
    case atStart => exact ⟨rfl, rfl⟩
    case round =>
      obtain ⟨rfl, rfl⟩ := hrel
      go_wp2_with fail
      exact bodyPost_ret (v := .agg #[.slice none 0 0]) (by simp [results, Try.results33, go_sem, c1]) rfl ⟨_, rfl, .inl ⟨rfl, rfl⟩, hB1.setCell (by simp) _⟩
  · have HO := hide ho
    have hgl := ho.lt
    clear ho
    go_wp2_with fail
    go_loopg [11] fs.length (fun kx s wr => ∃ k : Nat, s = .int .i64 k ∧ k ≤ fs.length ∧ fs.length - k ≤ kx ∧ Hid (Below w1.heap.size w1 wr))
    case atStart => exact ⟨0, rfl, Nat.zero_le _, by omega, hide (Below.refl _ _)⟩
    case round =>
      obtain ⟨k, rfl, hk, hkx, hB⟩ := hrel
      by_cases hlt : k < fs.length
      · obtain ⟨f, hf⟩ : ∃ f, fs[k]? = some f := ⟨_, List.getElem?_eq_getElem hlt⟩
        have o := (unhide HO).next (unhide hB)
        have hgl2 := o.lt
        have e0 := o.c0 hf
        have e1 := o.c1 hf
        have e2 := o.c2 hf
        have f0 := o.frozen (k * 3)
        have f1 := o.frozen (k * 3 + 1)
        have f2 := o.frozen (k * 3 + 2)
        have hsl := unhide HS f (List.mem_of_getElem? hf)
        clear hf o
        obtain ⟨fn, fss, ft⟩ := f
        have k0 := fun W => clone_any fn W (by have := hsl.1; simp at this; omega)
        have k1 := fun W => clone_any fss W (by have := hsl.2.1; simp at this; omega)
        have k2 := fun W => clone_any ft W (by have := hsl.2.2; simp at this; omega)
        simp only at e0 e1 e2
        clear hsl
        go_wp2_with fail
        have d0 : ∀ d os, (Sort.grow (redrawn wr d) os).cell? ⟨g, k * 3, none⟩ = some (.string ⟨fn.toArray⟩) := fun d os => cell_regrown e0 d os
        have d1 : ∀ d os, (Sort.grow (redrawn wr d) os).cell? ⟨g, k * 3 + 1, none⟩ = some (.string ⟨fss.toArray⟩) := fun d os => cell_regrown e1 d os
        have d2 : ∀ d os, (Sort.grow (redrawn wr d) os).cell? ⟨g, k * 3 + 2, none⟩ = some (.string ⟨ft.toArray⟩) := fun d os => cell_regrown e2 d os
        have g0 : ∀ d os, (Sort.grow (redrawn wr d) os).frozen? ⟨g, k * 3, none⟩ = false := fun d os => by rw [(below_regrown wr d os).frozen (p := ⟨g, k * 3, none⟩) hgl2]; exact f0
        have g1 : ∀ d os, (Sort.grow (redrawn wr d) os).frozen? ⟨g, k * 3 + 1, none⟩ = false := fun d os => by rw [(below_regrown wr d os).frozen (p := ⟨g, k * 3 + 1, none⟩) hgl2]; exact f1
        have g2 : ∀ d os, (Sort.grow (redrawn wr d) os).frozen? ⟨g, k * 3 + 2, none⟩ = false := fun d os => by rw [(below_regrown wr d os).frozen (p := ⟨g, k * 3 + 2, none⟩) hgl2]; exact f2
        have s0 : ∀ d os, (Sort.grow (redrawn wr d) os).setCell ⟨g, k * 3, none⟩ (.string ⟨fn.toArray⟩) = Sort.grow (redrawn wr d) os := fun d os => set_same (d0 d os)
        have s1 : ∀ d os, (Sort.grow (redrawn wr d) os).setCell ⟨g, k * 3 + 1, none⟩ (.string ⟨fss.toArray⟩) = Sort.grow (redrawn wr d) os := fun d os => set_same (d1 d os)
        have s2 : ∀ d os, (Sort.grow (redrawn wr d) os).setCell ⟨g, k * 3 + 2, none⟩ (.string ⟨ft.toArray⟩) = Sort.grow (redrawn wr d) os := fun d os => set_same (d2 d os)
        have c0 := fun d os => Calls.regrown_of (w := wr) (d := d) (os := os) (k0 _)
        have c1' := fun d os => Calls.regrown_of (w := wr) (d := d) (os := os) (k1 _)
        have c2 := fun d os => Calls.regrown_of (w := wr) (d := d) (os := os) (k2 _)
        clear k0 k1 k2 e0 e1 e2 f0 f1 f2
        refine wp_region_quiet_below (by kernel_rfl) (by kernel_rfl) ?_
        repeat (first | go_big_quiet_step (first | with_reducible exact c0 _ _ | with_reducible exact c1' _ _ | with_reducible exact c2 _ _) | quiet_step (first | with_reducible exact c0 _ _ | with_reducible exact c1' _ _ | with_reducible exact c2 _ _))
        refine wpQuiet_nil ?_
        intro _ hw'
        obtain ⟨⟨dq, osq⟩, hw''⟩ := hw'
        subst hw''
        have hb2 := below_next (unhide hB) (below_regrown wr dq osq)
        clear c0 c1' c2 s0 s1 s2 d0 d1 d2 g0 g1 g2
        go_wp2_with fail
        go_roundg (fs.length - (k + 1))
        case measure => omega
        case rel => exact ⟨k + 1, rfl, by omega, Nat.le_refl _, hide hb2⟩
      · have c2 : wr.cell? ⟨w.heap.size + 1, 0, none⟩ = some (.slice none 0 0) := by
          rw [(unhide hB).cell (p := ⟨w.heap.size + 1, 0, none⟩) hz]; exact c1
        have f2 : wr.frozen? ⟨w.heap.size + 1, 0, none⟩ = false := by
          rw [(unhide hB).frozen (p := ⟨w.heap.size + 1, 0, none⟩) hz]; exact f1
        have hgw : g ≠ w.heap.size + 1 := by omega
        go_wp2_with fail
        exact bodyPost_ret (v := .agg #[.slice (some ⟨g, 0, none⟩) fs.length cap]) (by simp [results, Try.results33, go_sem, c2]) rfl
          ⟨_, rfl, .inr ⟨g, cap, rfl, by omega, ((unhide HO).next (unhide hB)).other hgw _⟩, (below_next hB1 (unhide hB)).setCell (by simp) _⟩
end Go.Proofs.Ytbadhnmljlmefaa
