/-
  What slices.Clone at files, strings.Clone and disk.copied answer: the walks.
  What disk.settle and disk.extend do to a file of a row of the call's own: the walks.
  Runs of cells stored into a row of the call's own.
  What disk.locate and disk.Read answer: the walks.
-/
import Derived.Test.YtoacignhobchbaaGreatDoorSUQ
import Derived.Lib.SliceRun
import Derived.Lib.QuietBelow
import Derived.Deep.RegionHeld3
import Derived.BigQuiet
import Derived.Lib.Strings
import Derived.Laws.IdiomCopy
import Derived.Lib.AppendZeros
import Derived.Lib.JoinLaws
namespace Go.Proofs.YtoacignhobchbaaGreatDoor
open Go.RowKit
set_option maxRecDepth 10000 in

set_option maxHeartbeats 400000 in
theorem dclone_any (s : List UInt8) (w : World) (hs : s.length ≤ 281474976710656) :
    Calls Tryz.prog 69 #[.string ⟨s.toArray⟩] w fun e w' => e = .returned (.string ⟨s.toArray⟩) ∧ Below w.heap.size w w' := by
  have C := fun W => Tryz.stringslite_Clone ⟨s.toArray⟩ W (show (ByteArray.mk s.toArray).size ≤ _ from hs)
  go_enter Tryz.func69, Tryz.ntmps69
  go_wp2_with fail
  refine (C _).mono ?_
  rintro e w1 ⟨rfl, hb1⟩
  go_wp2_with fail
  go_ret
  exact ⟨rfl, hb1⟩

theorem info_file0 : (Tryz.prog.info? 87).map (fun i => (i.zero, i.size, i.bytes)) = some (some (.agg #[.string ⟨#[]⟩, .string ⟨#[]⟩, .string ⟨#[]⟩]), 3, 48) := by kernel_rfl
theorem info_file : ∃ i0, Tryz.prog.info? 87 = some i0 ∧ i0.zero = some (.agg #[.string ⟨#[]⟩, .string ⟨#[]⟩, .string ⟨#[]⟩]) ∧ i0.size = 3 ∧ i0.bytes = 48 := by
  obtain ⟨i0, h, e⟩ := Option.map_eq_some_iff.1 info_file0
  simp only [Prod.mk.injEq] at e
  exact ⟨i0, h, e⟩

set_option maxRecDepth 10000 in
set_option maxHeartbeats 2000000 in
theorem sclone_some (a : Addr) (cap : Nat) (fs : List DF) (w : World) (hl : fs.length ≤ 1000000) (hc : ∀ j u, (cellsF fs)[j]? = some u → w.cell? (a.add j) = some u) :
    Calls Tryz.prog 68 #[.slice (some a) fs.length cap] w fun e w' => ∃ v', e = .returned v' ∧ OwnV w' w.heap.size v' fs ∧ Below w.heap.size w w' := by
  have q22 : ∀ (w : World) (a : Option Addr) (n c n' c' : Nat), (binOp .eql 26 (.slice a n c) (.slice none n' c')).run Tryz.prog w = .ok (.bool a.isNone) w := fun w a n c n' c' => Lib.run_eql_slice_nil w _ _ a n c n' c' Tryz.underlying26
  have H : Hid (∀ j u, (cellsF fs)[j]? = some u → w.cell? (a.add j) = some u) := hc
  clear hc
  obtain ⟨i0, hi0, hz0, hz1, hz2⟩ := info_file
  go_enter Tryz.func68, Tryz.ntmps68
  go_wp2_with (at_builtin; refine wpList_append_own _ rfl _ _ 26 rfl w.heap.size 87 i0 _ 3 48 Tryz.underlying26 hi0 hz0 hz1 hz2 rfl (by decide) _ _ _ rfl (World.ownsRow_made w #[] 0 (Nat.le_refl _) (Nat.zero_le _) (by simp)) a fs.length cap (cellsF fs) rfl ?qc1 ?qc2 ?qc3 ?qc4 ?qc5 ?qc6 ?_)
  case qc1 => exact cellsF_length fs
  case qc2 =>
    intro j u hj
    exact Lib.cell?_alloc_some _ (H.out j u hj)
  case qc3 => exact cellsF_one fs
  case qc4 => simp only [maxLen]; omega
  case qc5 => omega
  case qc6 => simp
  intro v' w1 hown hgrow hnil
  go_wp2
  go_ret
  refine ⟨v', rfl, OwnV.of_row (by simpa using hown), ?_⟩
  exact ((Below.refl _ w).alloc (Nat.le_refl _) _).grown hgrow (by simp) (by intro k hk; simp [Value.ownBlock] at hk; omega)

set_option maxRecDepth 10000 in
set_option maxHeartbeats 400000 in
theorem sclone_nil (n c : Nat) (w : World) :
    Calls Tryz.prog 68 #[.slice none n c] w fun e w' => e = .returned (.slice none 0 0) ∧ w' = w := by
  have q22 : ∀ (w : World) (a : Option Addr) (n c n' c' : Nat), (binOp .eql 26 (.slice a n c) (.slice none n' c')).run Tryz.prog w = .ok (.bool a.isNone) w := fun w a n c n' c' => Lib.run_eql_slice_nil w _ _ a n c n' c' Tryz.underlying26
  go_enter Tryz.func68, Tryz.ntmps68
  go_wp2
  go_ret
  exact ⟨rfl, rfl⟩

theorem sclone_any (v : Value) (fs : List DF) (w : World) (hv : DiskV w v fs) (hl : fs.length ≤ 1000000) :
    Calls Tryz.prog 68 #[v] w fun e w' => ∃ v', e = .returned v' ∧ OwnV w' w.heap.size v' fs ∧ Below w.heap.size w w' := by
  rcases hv with ⟨a, cap, rfl, rfl, _⟩ | ⟨b, off, cap, rfl, _, _, hb, _, hr⟩
  · cases a with
    | none => exact (sclone_nil 0 cap w).mono fun e w' ⟨he, hw⟩ => ⟨_, he, .inl ⟨rfl, rfl⟩, by rw [hw]; exact Below.refl _ _⟩
    | some a => exact sclone_some a cap [] w (by simp) (fun j u h => by simp [cellsF] at h)
  · exact sclone_some ⟨b, off, none⟩ cap fs w hl (fun j u h => by rw [Addr.add_lit]; exact hr j u h)

theorem set_same {w : World} {a : Addr} {v : Value} (h : w.cell? a = some v) : w.setCell a v = w := by
  obtain ⟨heap, tape, drawn, os, output⟩ := w
  simp only [World.setCell, World.cell?] at *
  congr 1
  apply Array.ext_getElem?
  intro k
  rw [Array.getElem?_modify]
  by_cases hk : a.block = k
  · subst hk
    simp only [if_true]
    cases ho : heap[a.block]? with
    | none => rfl
    | some o =>
      rw [ho] at h
      cases o with
      | cells c e fz =>
        simp only at h
        by_cases hs : a.spot.isSome = true
        · simp [hs] at h
        · simp only [hs] at h
          simp [hs]
          have hlt : a.off < c.size := (Array.getElem?_eq_some_iff.1 (by simpa using h)).1
          have hv : c[a.off] = v := (Array.getElem?_eq_some_iff.1 (by simpa using h)).2
          rw [← hv]
          simp [Array.setIfInBounds, hlt]
      | _ => simp at h
  · simp [hk]

theorem dbelow_next {w W V : World} (h : Below w.heap.size w W) (h' : Below W.heap.size W V) : Below w.heap.size w V := h.trans (h'.mono h.size)

set_option maxRecDepth 10000 in
set_option maxHeartbeats 1000000 in
theorem copied_any (v : Value) (fs : List DF) (w : World) (hv : DiskV w v fs) (hs : Slim fs) (hl : fs.length ≤ 16) :
    Calls Tryz.prog 95 #[.agg #[v]] w fun e w' => ∃ v', e = .returned (.agg #[v']) ∧ OwnV w' w.heap.size v' fs ∧ Below w.heap.size w w' := by
  have V : ∃ a n c, v = .slice a n c := by
    rcases hv with ⟨a, cap, rfl, _, _⟩ | ⟨b, off, cap, rfl, _⟩
    · exact ⟨_, _, _, rfl⟩
    · exact ⟨_, _, _, rfl⟩
  have HV := hide hv
  have HS := hide hs
  obtain ⟨a, n, c, rfl⟩ := V
  clear hv hs
  go_enter Tryz.func95, Tryz.ntmps95
  go_wp2_with fail
  refine (sclone_any _ fs _ ((unhide HV).next (((Below.refl _ _).alloc (Nat.le_refl _) _).alloc (by simp) _)) (by omega)).mono ?_
  rintro e w1 ⟨v', rfl, ho, hb1⟩
  have hB1 : Below w.heap.size w w1 := dbox_then (dbox_then hb1)
  have c1 : w1.cell? ⟨w.heap.size + 1, 0, none⟩ = some (.slice none 0 0) := by
    rw [hb1.cell (p := ⟨w.heap.size + 1, 0, none⟩) (by simp)]; simp
  have f1 : w1.frozen? ⟨w.heap.size + 1, 0, none⟩ = false := by
    rw [hb1.frozen (p := ⟨w.heap.size + 1, 0, none⟩) (by simp)]; simp
  have hz : w.heap.size + 1 < w1.heap.size := by have := hb1.size; simp at this; omega
  have hs2 : ((w.alloc (Obj.cells #[Value.slice a n c] 28)).alloc (Obj.cells #[Value.slice none 0 0] 28)).heap.size = w.heap.size + 2 := by simp
  rw [hs2] at ho
  clear hb1 hs2
  rcases ho with ⟨rfl, rfl⟩ | ⟨g, cap, rfl, hg, ho⟩
  · go_wp2_with fail
    go_loopg [11] 1 (fun _ s wr => s = .int .i64 0 ∧ wr = w1)
    case atStart => exact ⟨rfl, rfl⟩
    case round =>
      obtain ⟨rfl, rfl⟩ := hrel
      go_wp2_with fail
      exact bodyPost_ret (v := .agg #[.slice none 0 0]) (by simp [results, Tryz.results95, go_sem, c1]) rfl ⟨_, rfl, .inl ⟨rfl, rfl⟩, hB1.setCell (by simp) _⟩
  · have HO := hide ho
    have hgl := ho.lt
    clear ho
    go_wp2_with fail
    go_loopg [11] fs.length (fun kx s wr => ∃ k : Nat, s = .int .i64 k ∧ k ≤ fs.length ∧ fs.length - k ≤ kx ∧ Hid (Below w1.heap.size w1 wr))
    case atStart => exact ⟨0, rfl, Nat.zero_le _, by omega, hide (Below.refl _ _)⟩
    case round =>
      obtain ⟨k, rfl, hk, hkx, hB⟩ := hrel
      by_cases hlt : k < fs.length
      · obtain ⟨f, hf⟩ : ∃ f, fs[k]? = some f := ⟨_, List.getElem?_eq_getElem hlt⟩
        have o := (unhide HO).next (unhide hB)
        have hgl2 := o.lt
        have e0 := o.c0 hf
        have e1 := o.c1 hf
        have e2 := o.c2 hf
        have f0 := o.frozen (k * 3)
        have f1 := o.frozen (k * 3 + 1)
        have f2 := o.frozen (k * 3 + 2)
        have hsl := unhide HS f (List.mem_of_getElem? hf)
        clear hf o
        obtain ⟨fn, fss, ft⟩ := f
        have k0 := fun W => dclone_any fn W (by have := hsl.1; simp at this; omega)
        have k1 := fun W => dclone_any fss W (by have := hsl.2.1; simp at this; omega)
        have k2 := fun W => dclone_any ft W (by have := hsl.2.2; simp at this; omega)
        simp only at e0 e1 e2
        clear hsl
        go_wp2_with fail
        have d0 : ∀ d os, (Sort.grow (redrawn wr d) os).cell? ⟨g, k * 3, none⟩ = some (.string ⟨fn.toArray⟩) := fun d os => cell_regrown e0 d os
        have d1 : ∀ d os, (Sort.grow (redrawn wr d) os).cell? ⟨g, k * 3 + 1, none⟩ = some (.string ⟨fss.toArray⟩) := fun d os => cell_regrown e1 d os
        have d2 : ∀ d os, (Sort.grow (redrawn wr d) os).cell? ⟨g, k * 3 + 2, none⟩ = some (.string ⟨ft.toArray⟩) := fun d os => cell_regrown e2 d os
        have g0 : ∀ d os, (Sort.grow (redrawn wr d) os).frozen? ⟨g, k * 3, none⟩ = false := fun d os => by rw [(below_regrown wr d os).frozen (p := ⟨g, k * 3, none⟩) hgl2]; exact f0
        have g1 : ∀ d os, (Sort.grow (redrawn wr d) os).frozen? ⟨g, k * 3 + 1, none⟩ = false := fun d os => by rw [(below_regrown wr d os).frozen (p := ⟨g, k * 3 + 1, none⟩) hgl2]; exact f1
        have g2 : ∀ d os, (Sort.grow (redrawn wr d) os).frozen? ⟨g, k * 3 + 2, none⟩ = false := fun d os => by rw [(below_regrown wr d os).frozen (p := ⟨g, k * 3 + 2, none⟩) hgl2]; exact f2
        have s0 : ∀ d os, (Sort.grow (redrawn wr d) os).setCell ⟨g, k * 3, none⟩ (.string ⟨fn.toArray⟩) = Sort.grow (redrawn wr d) os := fun d os => set_same (d0 d os)
        have s1 : ∀ d os, (Sort.grow (redrawn wr d) os).setCell ⟨g, k * 3 + 1, none⟩ (.string ⟨fss.toArray⟩) = Sort.grow (redrawn wr d) os := fun d os => set_same (d1 d os)
        have s2 : ∀ d os, (Sort.grow (redrawn wr d) os).setCell ⟨g, k * 3 + 2, none⟩ (.string ⟨ft.toArray⟩) = Sort.grow (redrawn wr d) os := fun d os => set_same (d2 d os)
        have c0 := fun d os => Calls.regrown_of (w := wr) (d := d) (os := os) (k0 _)
        have c1' := fun d os => Calls.regrown_of (w := wr) (d := d) (os := os) (k1 _)
        have c2 := fun d os => Calls.regrown_of (w := wr) (d := d) (os := os) (k2 _)
        clear k0 k1 k2 e0 e1 e2 f0 f1 f2
        refine wp_region_quiet_below (by kernel_rfl) (by kernel_rfl) ?_
        repeat (first | go_big_quiet_step (first | with_reducible exact c0 _ _ | with_reducible exact c1' _ _ | with_reducible exact c2 _ _) | quiet_step (first | with_reducible exact c0 _ _ | with_reducible exact c1' _ _ | with_reducible exact c2 _ _))
        refine wpQuiet_nil ?_
        intro _ hw'
        obtain ⟨⟨dq, osq⟩, hw''⟩ := hw'
        subst hw''
        have hb2 := dbelow_next (unhide hB) (below_regrown wr dq osq)
        clear c0 c1' c2 s0 s1 s2 d0 d1 d2 g0 g1 g2
        go_wp2_with fail
        go_roundg (fs.length - (k + 1))
        case measure => omega
        case rel => exact ⟨k + 1, rfl, by omega, Nat.le_refl _, hide hb2⟩
      · have c2 : wr.cell? ⟨w.heap.size + 1, 0, none⟩ = some (.slice none 0 0) := by
          rw [(unhide hB).cell (p := ⟨w.heap.size + 1, 0, none⟩) hz]; exact c1
        have f2 : wr.frozen? ⟨w.heap.size + 1, 0, none⟩ = false := by
          rw [(unhide hB).frozen (p := ⟨w.heap.size + 1, 0, none⟩) hz]; exact f1
        have hgw : g ≠ w.heap.size + 1 := by omega
        go_wp2_with fail
        exact bodyPost_ret (v := .agg #[.slice (some ⟨g, 0, none⟩) fs.length cap]) (by simp [results, Tryz.results95, go_sem, c2]) rfl
          ⟨_, rfl, .inr ⟨g, cap, rfl, by omega, ((unhide HO).next (unhide hB)).other hgw _⟩, (dbelow_next hB1 (unhide hB)).setCell (by simp) _⟩
end Go.Proofs.YtoacignhobchbaaGreatDoor

namespace Go.Proofs.YtoacignhobchbaaGreatDoor
open Go.RowKit

theorem grown_set {w : World} {g j : Nat} (v : Value) : w.grownBy (w.setCell ⟨g, j, none⟩ v) (some g) := ⟨rfl, rfl, rfl, by simp [World.setCell], fun k _ hne => Below.heap_setCell w ⟨g, j, none⟩ v k (fun e => hne (by rw [e]))⟩
theorem grown_drew {w w' : World} {r : Option Nat} (h : w.grownBy w' r) : w.grownBy w'.drew r := ⟨h.os, h.tape, h.output, h.size, h.block⟩
theorem grown_trans {w w' w'' : World} {g : Nat} (h : w.grownBy w' (some g)) (h' : w'.grownBy w'' (some g)) : w.grownBy w'' (some g) :=
  ⟨h'.os.trans h.os, h'.tape.trans h.tape, h'.output.trans h.output, Nat.le_trans h.size h'.size, fun k hk hne => (h'.block k (Nat.lt_of_lt_of_le hk h.size) hne).trans (h.block k hk hne)⟩
theorem dgrown_below {w w' : World} {g : Nat} (h : Below w.heap.size w w') : w.grownBy w' (some g) := ⟨h.os, h.tape, h.output, h.size, fun k hk _ => h.block k hk⟩

theorem dcat_one (l m : List UInt8) : (ByteArray.mk l.toArray) ++ (ByteArray.mk m.toArray) = ⟨(l ++ m).toArray⟩ := by
  have h : ((ByteArray.mk l.toArray) ++ (ByteArray.mk m.toArray)).data.toList = l ++ m := by simp [ByteArray.data_append]
  exact congrArg (fun l : List UInt8 => ByteArray.mk l.toArray) h
theorem dex_front (l : List UInt8) (d : Nat) : (ByteArray.mk l.toArray).extract 0 d = ⟨(l.take d).toArray⟩ := by
  apply ByteArray.ext
  apply Array.toList_inj.1
  have h := Lib.extract_toList (ByteArray.mk l.toArray) 0 d
  rw [Lib.toList_data] at h
  refine h.trans ?_
  show (l.drop 0).take (d - 0) = _
  simp

set_option maxRecDepth 10000 in
set_option maxHeartbeats 1000000 in
theorem settle_any (g cap k : Nat) (fs : List DF) (f : DF) (n : Nat) (w : World) (ho : Own w g cap fs) (hk : fs[k]? = some f) (hn : n ≤ f.s.length + f.t.length) (hf : f.s.length + f.t.length ≤ 1048576) :
    Calls Tryz.prog 100 #[.pointer (some ⟨g, k * 3, none⟩), .int .i64 n] w fun e w' =>
      e = .returned (.tuple #[]) ∧ Own w' g cap (fs.set k ⟨f.n, (f.s ++ f.t).take n, []⟩) ∧ w.grownBy w' (some g) := by
  have e1 := ho.c1 hk
  have e2 := ho.c2 hk
  have f1 := ho.frozen (k * 3 + 1)
  have f2 := ho.frozen (k * 3 + 2)
  have HO := hide ho
  have HK := hide hk
  clear ho hk
  obtain ⟨fn, fss, ft⟩ := f
  simp only at *
  have hn1 : (n : Int) ≤ (fss.length : Int) + (ft.length : Int) := by omega
  go_enter Tryz.func100, Tryz.ntmps100
  go_wp2_with fail
  go_region
  go_wp2_with fail
  go_end0
  refine ⟨rfl, ?_, ?_⟩
  · rw [dcat_one, dex_front]
    have h1 := (unhide HO).s1 (unhide HK) ((fss ++ ft).take n)
    have h2 := h1.s2 (f := ⟨fn, (fss ++ ft).take n, ft⟩) (by rw [List.getElem?_set_self (List.getElem?_eq_some_iff.1 (unhide HK)).1]) []
    rw [List.set_set] at h2
    exact h2
  · exact grown_drew (grown_trans (grown_set _) (grown_set _))

set_option maxRecDepth 10000 in
set_option maxHeartbeats 1000000 in
theorem extend_any (g cap k : Nat) (fs : List DF) (f : DF) (x : List UInt8) (w : World) (ho : Own w g cap fs) (hk : fs[k]? = some f) (hx : x.length ≤ 1048576) (hf : f.t.length ≤ 1048576) :
    Calls Tryz.prog 97 #[.pointer (some ⟨g, k * 3, none⟩), .string ⟨x.toArray⟩] w fun e w' =>
      e = .returned (.tuple #[]) ∧ Own w' g cap (fs.set k ⟨f.n, f.s, f.t ++ x⟩) ∧ w.grownBy w' (some g) := by
  have e2 := ho.c2 hk
  have f2 := ho.frozen (k * 3 + 2)
  have HO := hide ho
  have HK := hide hk
  have hg := ho.lt
  clear ho hk
  obtain ⟨fn, fss, ft⟩ := f
  simp only at *
  have C := fun W => dclone_any x W (by omega)
  have hlen : ¬ 9223372036854775807 < ft.length + x.length := by omega
  go_enter Tryz.func97, Tryz.ntmps97
  go_wp2_with fail
  go_region_with (first | (go_at_call 69; refine (C _).mono ?_; rintro e w1 ⟨rfl, hb1⟩; have e3 : w1.cell? ⟨g, k * 3 + 2, none⟩ = some (.string ⟨ft.toArray⟩) := (hb1.cell (p := ⟨g, k * 3 + 2, none⟩) hg).trans e2; have f3 : w1.frozen? ⟨g, k * 3 + 2, none⟩ = false := (hb1.frozen (p := ⟨g, k * 3 + 2, none⟩) hg).trans f2))
  all_goals go_wp2_with fail
  all_goals
    have hb : Below w.heap.size w w1 := ((Below.refl _ w).drew).trans hb1
    go_end0
    refine ⟨rfl, ?_, grown_trans (dgrown_below hb) (grown_set _)⟩
    rw [dcat_one]
    exact ((unhide HO).next hb).s2 (unhide HK) (ft ++ x)
end Go.Proofs.YtoacignhobchbaaGreatDoor

namespace Go.Proofs.YtoacignhobchbaaGreatDoor
open Go.RowKit

theorem block_setCells {g : Nat} {t : TypeId} {fz : Nat × Nat} : ∀ (vs : List Value) (o : Nat) (w : World) (l : List Value), w.heap[g]? = some (.cells l.toArray t fz) → o + vs.length ≤ l.length →
    (w.setCells g o vs).heap[g]? = some (.cells (l.take o ++ vs ++ l.drop (o + vs.length)).toArray t fz)
  | [], o, w, l, h, _ => by simpa [World.setCells] using h
  | v :: r, o, w, l, h, hl => by
    have h1 : (w.setCell ⟨g, o, none⟩ v).heap[g]? = some (.cells (l.set o v).toArray t fz) := by rw [block_set v h]; simp
    rw [World.setCells, block_setCells r (o + 1) _ _ h1 (by simp at hl ⊢; omega)]
    have ho : o < l.length := by simp at hl; omega
    have e1 : (l.set o v).take (o + 1) = l.take o ++ [v] := by
      rw [List.take_set, List.take_succ_eq_append_getElem ho, List.set_append_right _ _ (by simp; omega)]
      simp [Nat.min_eq_left (Nat.le_of_lt ho)]
    have e2 : (l.set o v).drop (o + 1 + r.length) = l.drop (o + (r.length + 1)) := by
      rw [List.drop_set_of_lt (by omega)]; congr 1; omega
    rw [e1, e2]
    simp
theorem grown_setCells {g : Nat} : ∀ (vs : List Value) (o : Nat) (w : World), w.grownBy (w.setCells g o vs) (some g)
  | [], _, _ => ⟨rfl, rfl, rfl, Nat.le_refl _, fun _ _ _ => rfl⟩
  | v :: r, o, _ => grown_trans (grown_set v) (grown_setCells r (o + 1) _)

/-- new files laid behind the first ones -/
theorem Own.splice {W : World} {g cap : Nat} {pre tl : List DF} (h : Own W g cap (pre ++ tl)) (new : List DF) (hfit : pre.length + new.length ≤ cap) : Own (W.setCells g (pre.length * 3) (cellsF new)) g cap (pre ++ new) := by
  obtain ⟨rest, h1, h2, h3⟩ := h
  have hlen : (cellsF (pre ++ tl) ++ rest).length = cap * 3 := by rw [List.length_append, cellsF_length]; exact h2
  refine ⟨(cellsF (pre ++ tl) ++ rest).drop (pre.length * 3 + (cellsF new).length), ?_, ?_, h3⟩
  · rw [block_setCells (cellsF new) (pre.length * 3) W _ h1 (by rw [hlen, cellsF_length]; omega), cellsF_append pre new]
    congr 3
    have e : cellsF (pre ++ tl) ++ rest = cellsF pre ++ (cellsF tl ++ rest) := by rw [cellsF_append, List.append_assoc]
    rw [e, ← cellsF_length pre, List.take_left]
  · rw [List.length_drop, hlen, cellsF_length, List.length_append]; omega
/-- cells behind the files -/
theorem Own.spare {W : World} {g cap : Nat} {fs : List DF} (h : Own W g cap fs) (vs : List Value) (o : Nat) (ho : fs.length * 3 ≤ o) (hfit : o + vs.length ≤ cap * 3) : Own (W.setCells g o vs) g cap fs := by
  obtain ⟨rest, h1, h2, h3⟩ := h
  have hlen : (cellsF fs ++ rest).length = cap * 3 := by rw [List.length_append, cellsF_length]; exact h2
  have hc := cellsF_length fs
  refine ⟨rest.take (o - fs.length * 3) ++ vs ++ (cellsF fs ++ rest).drop (o + vs.length), ?_, ?_, h3⟩
  · rw [block_setCells vs o W _ h1 (by rw [hlen]; omega)]
    congr 2
    rw [List.take_append, List.take_of_length_le (by omega), hc]
    simp only [List.append_assoc]
  · simp only [List.length_append, List.length_take, List.length_drop, hc]
    omega
/-- one file for another -/
theorem Own.swap1 {W : World} {g cap : Nat} {A B : List DF} {y : DF} (h : Own W g cap (A ++ y :: B)) (x : DF) : Own (W.setCells g (A.length * 3) (fcells x)) g cap (A ++ x :: B) := by
  obtain ⟨rest, h1, h2, h3⟩ := h
  have hlen : (cellsF (A ++ y :: B) ++ rest).length = cap * 3 := by rw [List.length_append, cellsF_length]; exact h2
  refine ⟨rest, ?_, by simpa using h2, h3⟩
  have hA := cellsF_length A
  rw [block_setCells (fcells x) (A.length * 3) W _ h1 (by rw [hlen]; simp [fcells] at h2 ⊢; omega)]
  have e : cellsF (A ++ y :: B) ++ rest = cellsF A ++ (fcells y ++ (cellsF B ++ rest)) := by simp [cellsF_append, cellsF]
  have e' : cellsF (A ++ x :: B) ++ rest = cellsF A ++ (fcells x ++ (cellsF B ++ rest)) := by simp [cellsF_append, cellsF]
  rw [e, e']
  have hx3 : (fcells x).length = 3 := rfl
  have hy3 : (fcells y).length = 3 := rfl
  congr 2
  rw [hx3, ← hA, List.take_left, show (cellsF A).length + 3 = (cellsF A ++ fcells y).length by rw [List.length_append, hy3], ← List.append_assoc (cellsF A) (fcells y), List.drop_left, List.append_assoc]
end Go.Proofs.YtoacignhobchbaaGreatDoor

namespace Go.Proofs.YtoacignhobchbaaGreatDoor
open Go.RowKit

/-- where a file is not found: what is said -/
def LocNo (fs : List DF) (name : List UInt8) (E : Int) : Prop := (goodD fs = false ∧ E = 3) ∨ (GoodD fs ∧ (∃ A B, Gap fs A B name) ∧ E = 7)
theorem loc_cases (fs : List DF) (name : List UInt8) : (∃ E, LocNo fs name E) ∨ (GoodD fs ∧ ∃ A f B, There fs A f B name) := by
  cases hg : goodD fs with
  | false => exact .inl ⟨3, .inl ⟨hg, rfl⟩⟩
  | true =>
    have g := goodD_true.1 hg
    rcases where_is name fs g.asc with h | h
    · exact .inr ⟨g, h⟩
    · exact .inl ⟨7, .inr ⟨g, h, rfl⟩⟩
theorem disk_slice {w : World} {v : Value} {fs : List DF} (hv : DiskV w v fs) : ∃ a n c, v = .slice a n c := by
  rcases hv with ⟨a, cap, rfl, _, _⟩ | ⟨b, off, cap, rfl, _⟩
  · exact ⟨_, _, _, rfl⟩
  · exact ⟨_, _, _, rfl⟩

set_option maxRecDepth 10000 in
set_option maxHeartbeats 1000000 in
theorem locate_no (v : Value) (fs : List DF) (name : List UInt8) (E : Int) (w : World) (hv : DiskV w v fs) (hs : Slim fs) (h : LocNo fs name E) :
    Calls Tryz.prog 90 #[.agg #[v], .string ⟨name.toArray⟩] w fun e w' => e = .returned (.tuple #[.int .i64 0, .int .i64 E]) ∧ Below w.heap.size w w' := by
  obtain ⟨a, n, c, rfl⟩ := disk_slice hv
  have HV := hide hv
  have CG := fun W (h : Below w.heap.size w W) => dgood_any _ fs W (hv.next h) hs
  rcases h with ⟨hg, rfl⟩ | ⟨g, ⟨A, B, G⟩, rfl⟩
  · rw [hg] at CG
    clear hg hv hs
    go_enter Tryz.func90, Tryz.ntmps90
    go_wp2_with fail
    refine (CG _ ((Below.refl _ _).alloc (Nat.le_refl _) _)).mono ?_
    rintro e w1 ⟨rfl, hb1⟩
    have hbz := dbox_then hb1
    clear CG
    go_wp2_with fail
    go_ret2
    exact ⟨rfl, hbz⟩
  · rw [goodD_true.2 g] at CG
    have CF := fun W (h : Below w.heap.size w W) => find_gap _ fs A B name W (hv.next h) g.few G
    clear hv hs g G
    go_enter Tryz.func90, Tryz.ntmps90
    go_wp2_with fail
    refine (CG _ ((Below.refl _ _).alloc (Nat.le_refl _) _)).mono ?_
    rintro e w1 ⟨rfl, hb1⟩
    have hbz := dbox_then hb1
    have c1 : w1.cell? ⟨w.heap.size, 0, none⟩ = some (.slice a n c) := by rw [hb1.cell (p := ⟨w.heap.size, 0, none⟩) (by simp)]; simp
    clear CG hb1
    go_wp2_with fail
    refine (CF _ hbz).mono ?_
    rintro e w2 ⟨rfl, hb2⟩
    have hbx := dbelow_next hbz hb2
    clear CF
    go_wp2_with fail
    go_ret2
    exact ⟨rfl, hbx⟩

set_option maxRecDepth 10000 in
set_option maxHeartbeats 1000000 in
theorem locate_there (v : Value) (fs A B : List DF) (f : DF) (name : List UInt8) (w : World) (hv : DiskV w v fs) (hs : Slim fs) (g : GoodD fs) (T : There fs A f B name) :
    Calls Tryz.prog 90 #[.agg #[v], .string ⟨name.toArray⟩] w fun e w' => e = .returned (.tuple #[.int .i64 A.length, .int .i64 0]) ∧ Below w.heap.size w w' := by
  obtain ⟨a, n, c, rfl⟩ := disk_slice hv
  have CG := fun W (h : Below w.heap.size w W) => dgood_any _ fs W (hv.next h) hs
  rw [goodD_true.2 g] at CG
  have CF := fun W (h : Below w.heap.size w W) => find_there _ fs A B f name W (hv.next h) g.few T
  clear hv hs g T
  go_enter Tryz.func90, Tryz.ntmps90
  go_wp2_with fail
  refine (CG _ ((Below.refl _ _).alloc (Nat.le_refl _) _)).mono ?_
  rintro e w1 ⟨rfl, hb1⟩
  have hbz := dbox_then hb1
  have c1 : w1.cell? ⟨w.heap.size, 0, none⟩ = some (.slice a n c) := by rw [hb1.cell (p := ⟨w.heap.size, 0, none⟩) (by simp)]; simp
  clear CG hb1
  go_wp2_with fail
  refine (CF _ hbz).mono ?_
  rintro e w2 ⟨rfl, hb2⟩
  have hbx := dbelow_next hbz hb2
  clear CF
  go_wp2_with fail
  go_ret2
  exact ⟨rfl, hbx⟩

/-- a file that is there: the disk's value is a row, and this is a file of it -/
theorem there_row {w : World} {v : Value} {fs A B : List DF} {f : DF} {name : List UInt8} (hv : DiskV w v fs) (T : There fs A f B name) :
    ∃ b off cap, v = .slice (some ⟨b, off, none⟩) fs.length cap ∧ b < w.heap.size ∧ RowAt w b off (cellsF fs) ∧ fs[A.length]? = some f ∧ A.length < fs.length := by
  have hk : fs[A.length]? = some f := by rw [T.eq]; simp
  rcases hv with ⟨a, cap, rfl, rfl, _⟩ | ⟨b, off, cap, rfl, _, _, hb, _, hr⟩
  · simp at hk
  · exact ⟨b, off, cap, rfl, hb, hr, hk, (List.getElem?_eq_some_iff.1 hk).1⟩

set_option maxRecDepth 10000 in
set_option maxHeartbeats 1000000 in
theorem read_no (v : Value) (fs : List DF) (name : List UInt8) (E : Int) (w : World) (hv : DiskV w v fs) (hs : Slim fs) (h : LocNo fs name E) :
    Calls Tryz.prog 60 #[.agg #[v], .string ⟨name.toArray⟩] w fun e w' => e = .returned (.tuple #[.string ⟨#[]⟩, .int .i64 E]) ∧ Below w.heap.size w w' := by
  obtain ⟨a, n, c, rfl⟩ := disk_slice hv
  have C := fun W (hW : Below w.heap.size w W) => locate_no _ fs name E W (hv.next hW) hs h
  have hne : (E != 0) = true := by rcases h with ⟨_, rfl⟩ | ⟨_, _, rfl⟩ <;> decide
  clear hv hs h
  go_enter Tryz.func60, Tryz.ntmps60
  go_wp2_with fail
  refine (C _ ((Below.refl _ _).alloc (Nat.le_refl _) _)).mono ?_
  rintro e w1 ⟨rfl, hb1⟩
  have hbz := dbox_then hb1
  clear C
  go_wp2_with fail
  go_ret2
  exact ⟨rfl, hbz⟩

set_option maxRecDepth 10000 in
set_option maxHeartbeats 1000000 in
theorem read_there (v : Value) (fs A B : List DF) (f : DF) (name : List UInt8) (w : World) (hv : DiskV w v fs) (hs : Slim fs) (g : GoodD fs) (T : There fs A f B name) :
    Calls Tryz.prog 60 #[.agg #[v], .string ⟨name.toArray⟩] w fun e w' => e = .returned (.tuple #[.string ⟨(f.s ++ f.t).toArray⟩, .int .i64 0]) ∧ Below w.heap.size w w' := by
  have C := fun W (hW : Below w.heap.size w W) => locate_there _ fs A B f name W (hv.next hW) hs g T
  obtain ⟨b, off, cap, rfl, hb, hr, hk, hlt⟩ := there_row hv T
  have hfl := fileOk_len (T.ok g)
  have HR := hide hr
  have HK := hide hk
  have hb0 : b ≠ w.heap.size := by omega
  have hlti : (A.length : Int) < (fs.length : Int) := by omega
  clear hv hs g T hr hk
  go_enter Tryz.func60, Tryz.ntmps60
  go_wp2_with fail
  refine (C _ ((Below.refl _ _).alloc (Nat.le_refl _) _)).mono ?_
  rintro e w1 ⟨rfl, hb1⟩
  have hbz := dbox_then hb1
  have c1 : w1.cell? ⟨w.heap.size, 0, none⟩ = some (.slice (some ⟨b, off, none⟩) fs.length cap) := by rw [hb1.cell (p := ⟨w.heap.size, 0, none⟩) (by simp)]; simp
  have r := (unhide HR).kept hbz hb
  have e0 := r.c0 (unhide HK)
  have e1 := r.c1 (unhide HK)
  have e2 := r.c2 (unhide HK)
  obtain ⟨fn, fss, ft⟩ := f
  simp only at *
  have k1 := fun W => dclone_any fss W (by omega)
  have k2 := fun W => dclone_any ft W (by omega)
  have hlen : ¬ 9223372036854775807 < fss.length + ft.length := by omega
  clear C hb1 r
  go_wp2_with fail
  have a1 : (w1.alloc (Obj.cells #[Value.string ⟨fn.toArray⟩, Value.string ⟨fss.toArray⟩, Value.string ⟨ft.toArray⟩] 87)).cell? ⟨w1.heap.size, 1, none⟩ = some (.string ⟨fss.toArray⟩) := by simp
  have a2 : (w1.alloc (Obj.cells #[Value.string ⟨fn.toArray⟩, Value.string ⟨fss.toArray⟩, Value.string ⟨ft.toArray⟩] 87)).cell? ⟨w1.heap.size, 2, none⟩ = some (.string ⟨ft.toArray⟩) := by simp
  have hbw := hbz.alloc hbz.size (Obj.cells #[Value.string ⟨fn.toArray⟩, Value.string ⟨fss.toArray⟩, Value.string ⟨ft.toArray⟩] 87)
  generalize w1.alloc (Obj.cells #[Value.string ⟨fn.toArray⟩, Value.string ⟨fss.toArray⟩, Value.string ⟨ft.toArray⟩] 87) = W at a1 a2 hbw ⊢
  have d1 : ∀ d os, (Sort.grow (redrawn W d) os).cell? ⟨w1.heap.size, 1, none⟩ = some (.string ⟨fss.toArray⟩) := fun d os => cell_regrown a1 d os
  have d2 : ∀ d os, (Sort.grow (redrawn W d) os).cell? ⟨w1.heap.size, 2, none⟩ = some (.string ⟨ft.toArray⟩) := fun d os => cell_regrown a2 d os
  have c1' := fun d os => Calls.regrown_of (w := W) (d := d) (os := os) (k1 _)
  have c2 := fun d os => Calls.regrown_of (w := W) (d := d) (os := os) (k2 _)
  clear k1 k2 a1 a2 e0 e1 e2 c1
  refine wp_region_quiet_below (by kernel_rfl) (by kernel_rfl) ?_
  repeat (first | go_big_quiet_step (first | with_reducible exact c1' _ _ | with_reducible exact c2 _ _) | quiet_step (first | with_reducible exact c1' _ _ | with_reducible exact c2 _ _))
  refine wpQuiet_nil ?_
  intro _ hw'
  obtain ⟨⟨dq, osq⟩, hw''⟩ := hw'
  subst hw''
  have hb2 := dbelow_next hbw (below_regrown W dq osq)
  clear c1' c2 d1 d2
  go_wp2_with fail
  go_ret2
  exact ⟨by rw [← dcat_one]; rfl, hb2⟩
end Go.Proofs.YtoacignhobchbaaGreatDoor
