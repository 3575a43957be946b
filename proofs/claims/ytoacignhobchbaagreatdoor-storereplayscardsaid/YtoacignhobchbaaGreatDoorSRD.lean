/-
  What disk.size and disk.find answer, with slices.BinarySearchFunc's own text: the walks.
  What disk.Good answers, for every disk: the walk.
  What slices.Clone at files, strings.Clone and disk.copied answer: the walks.
  What disk.settle and disk.extend do to a file of a row of the call's own: the walks.
  Runs of cells stored into a row of the call's own.
  What disk.locate and disk.Read answer: the walks.
  What disk.Sync, disk.Cut and disk.Remove say where there is no such file, and what Sync and Cut answer else: the walks.
  What slices.Delete of one file and disk.Remove answer: the walks.
-/
import Derived.Test.YtoacignhobchbaaGreatDoorSRC
import Derived.Test.YtoacignhobchbaaGreatDoorShelf
import Derived.Test.YtoacignhobchbaaGreatDoorSRB
import Derived.Lib.SliceRun
import Derived.Lib.QuietBelow
import Derived.Deep.RegionHeld3
import Derived.BigQuiet
import Derived.Lib.Strings
import Derived.Laws.IdiomCopy
import Derived.Lib.AppendZeros
import Derived.Lib.JoinLaws
import Derived.Deep.RegionWith
import Derived.Deep.RegionLaw
namespace Go.Proofs.YtoacignhobchbaaGreatDoor
open Go.RowKit

theorem dbox_then {w : World} {o : Obj} {w1 : World} (h : Below (w.alloc o).heap.size (w.alloc o) w1) : Below w.heap.size w w1 :=
  ((Below.refl _ _).alloc (Nat.le_refl _) _).trans (h.mono (by simp))

set_option maxRecDepth 10000 in
set_option maxHeartbeats 400000 in
theorem dsize_any (f : DF) (w : World) (h : f.s.length + f.t.length ≤ 9223372036854775807) :
    Calls Tryz.prog 94 #[fileV f] w fun e w' => e = .returned (.int .i64 ((f.s.length + f.t.length : Nat) : Int)) ∧ Below w.heap.size w w' := by
  unfold fileV
  go_enter Tryz.func94, Tryz.ntmps94
  go_wp2
  go_ret
  exact ⟨rfl, (Below.refl _ _).alloc (Nat.le_refl _) _⟩

set_option maxRecDepth 10000 in
set_option maxHeartbeats 400000 in
theorem cmp1_any (f : DF) (name : List UInt8) (w : World) :
    Calls Tryz.prog 123 #[fileV f, .string ⟨name.toArray⟩] w fun e w' => e = .returned (.int .i64 (Lib.compareBytes f.n name)) ∧ Below w.heap.size w w' := by
  unfold fileV
  go_enter Tryz.func123, Tryz.ntmps123
  go_wp2_with fail
  refine (Tryz.strings_Compare _ _ _).mono ?_
  rintro e w1 ⟨rfl, rfl⟩
  go_wp2_with fail
  go_ret
  exact ⟨rfl, (Below.refl _ _).alloc (Nat.le_refl _) _⟩

def headIs (R : List DF) (name : List UInt8) : Bool := match R with
  | [] => false
  | f :: _ => decide (f.n = name)
theorem split_get (A R : List DF) (name : List UInt8) (lo : ∀ a ∈ A, bl a.n name = true) (hi : ∀ a ∈ R, bl a.n name = false) (i : Nat) (h : i < A.length + R.length) : ∃ y, (A ++ R)[i]? = some y ∧ bl y.n name = decide (i < A.length) := by
  by_cases h1 : i < A.length
  · refine ⟨A[i], by rw [List.getElem?_append_left h1, List.getElem?_eq_getElem h1], ?_⟩
    rw [lo _ (List.getElem_mem h1)]; simp [h1]
  · have h2 : i - A.length < R.length := by omega
    refine ⟨R[i - A.length], by rw [List.getElem?_append_right (by omega), List.getElem?_eq_getElem h2], ?_⟩
    rw [hi _ (List.getElem_mem h2)]; simp [h1]

set_option maxRecDepth 10000 in
set_option maxHeartbeats 1000000 in
theorem bsf_any (b off cap : Nat) (A R : List DF) (name : List UInt8) (w : World) (hcap : A.length + R.length ≤ 16) (hb : b < w.heap.size) (h : RowAt w b off (cellsF (A ++ R)))
    (lo : ∀ a ∈ A, bl a.n name = true) (hi : ∀ a ∈ R, bl a.n name = false) :
    Calls Tryz.prog 122 #[.slice (some ⟨b, off, none⟩) (A.length + R.length) cap, .string ⟨name.toArray⟩, .func (.func 123) #[] #[]] w fun e w' =>
      e = .returned (.tuple #[.int .i64 A.length, .bool (headIs R name)]) ∧ Below w.heap.size w w' := by
  have H := hide h
  have SG := hide (split_get A R name lo hi)
  obtain ⟨fin, hfin⟩ : ∃ x, headIs R name = x := ⟨_, rfl⟩
  have HF := hide hfin
  rw [hfin]
  clear h hfin lo hi
  go_enter Tryz.func122, Tryz.ntmps122
  go_wp2_with fail
  go_loopg [9, 10] (A.length + R.length) (fun kx s9 s10 wr => ∃ lo hi : Nat, s9 = .int .i64 lo ∧ s10 = .int .i64 hi ∧ lo ≤ A.length ∧ A.length ≤ hi ∧ hi ≤ A.length + R.length ∧ hi - lo ≤ kx ∧ Hid (Below w.heap.size w wr))
  case atStart => exact ⟨0, A.length + R.length, rfl, rfl, Nat.zero_le _, by omega, Nat.le_refl _, by omega, hide (Below.refl _ _)⟩
  case round =>
    obtain ⟨lo, hi, rfl, rfl, h1, h2, h3, hg, hB⟩ := hrel
    by_cases hlt : lo < hi
    · obtain ⟨y, hy, hyn⟩ := unhide SG ((lo + hi) / 2) (by omega)
      have HY := hide hyn
      have r := (unhide H).kept (unhide hB) hb
      have e0 := r.c0 hy
      have e1 := r.c1 hy
      have e2 := r.c2 hy
      clear hyn hy r
      have hc := cmp_bl y.n name
      rw [unhide HY] at hc
      have CM := fun W => cmp1_any y name W
      generalize Lib.compareBytes y.n name = cv at hc CM
      by_cases hm : (lo + hi) / 2 < A.length
      · have hn : cv < 0 := by simpa [hm] using hc
        clear hc
        go_wp2_with fail
        refine (CM _).mono ?_
        rintro e w1 ⟨rfl, hb1⟩
        have hB2 : Below w.heap.size w w1 := (unhide hB).trans (hb1.mono (unhide hB).size)
        clear CM
        go_wp2_with fail
        go_roundg (hi - ((lo + hi) / 2 + 1))
        case measure => omega
        case rel => exact ⟨(lo + hi) / 2 + 1, hi, by rw [show ((lo : Int) + (hi : Int)) / 2 + 1 = (((lo + hi) / 2 + 1 : Nat) : Int) by omega], rfl, by omega, h2, h3, Nat.le_refl _, hide hB2⟩
      · have hn : ¬ cv < 0 := by simpa [hm] using hc
        clear hc
        go_wp2_with fail
        refine (CM _).mono ?_
        rintro e w1 ⟨rfl, hb1⟩
        have hB2 : Below w.heap.size w w1 := (unhide hB).trans (hb1.mono (unhide hB).size)
        clear CM
        go_wp2_with fail
        go_roundg ((lo + hi) / 2 - lo)
        case measure => omega
        case rel => exact ⟨lo, (lo + hi) / 2, rfl, by rw [show ((lo : Int) + (hi : Int)) / 2 = (((lo + hi) / 2 : Nat) : Int) by omega], h1, by omega, by omega, Nat.le_refl _, hide hB2⟩
    · obtain rfl : lo = A.length := by omega
      obtain rfl : hi = A.length := by omega
      cases R with
      | nil =>
        go_wp2_with fail
        go_ret2
        exact ⟨by rw [← unhide HF]; rfl, unhide hB⟩
      | cons f R =>
        have r := (unhide H).kept (unhide hB) hb
        have hy : (A ++ f :: R)[A.length]? = some f := by simp
        have e0 := r.c0 hy
        have e1 := r.c1 hy
        have e2 := r.c2 hy
        clear hy r
        have hc := cmp_zero f.n name
        have CM := fun W => cmp1_any f name W
        have hf : fin = decide (f.n = name) := (unhide HF).symm
        rw [← hc] at hf
        clear hc HF
        generalize Lib.compareBytes f.n name = cv at hf CM
        subst hf
        simp only [List.length_cons]
        go_wp2_with fail
        refine (CM _).mono ?_
        rintro e w1 ⟨rfl, hb1⟩
        have hB2 : Below w.heap.size w w1 := (unhide hB).trans (hb1.mono (unhide hB).size)
        clear CM
        go_wp2_with fail
        go_ret2
        exact ⟨by rfl, hB2⟩

set_option maxRecDepth 10000 in
set_option maxHeartbeats 400000 in
theorem bsf_none (a : Option Addr) (cap : Nat) (name : List UInt8) (w : World) :
    Calls Tryz.prog 122 #[.slice a 0 cap, .string ⟨name.toArray⟩, .func (.func 123) #[] #[]] w fun e w' =>
      e = .returned (.tuple #[.int .i64 0, .bool false]) ∧ Below w.heap.size w w' := by
  go_enter Tryz.func122, Tryz.ntmps122
  go_wp2_with fail
  go_loopg [9, 10] 1 (fun _ s9 s10 wr => s9 = .int .i64 0 ∧ s10 = .int .i64 0 ∧ Hid (Below w.heap.size w wr))
  case atStart => exact ⟨rfl, rfl, hide (Below.refl _ _)⟩
  case round =>
    obtain ⟨rfl, rfl, hB⟩ := hrel
    go_wp2_with fail
    go_ret2
    exact ⟨rfl, unhide hB⟩

set_option maxRecDepth 10000 in
set_option maxHeartbeats 400000 in
theorem find_split (v : Value) (fs A R : List DF) (name : List UInt8) (w : World) (hv : DiskV w v fs) (hl : fs.length ≤ 16) (he : fs = A ++ R) (lo : ∀ a ∈ A, bl a.n name = true) (hi : ∀ a ∈ R, bl a.n name = false) :
    Calls Tryz.prog 93 #[.agg #[v], .string ⟨name.toArray⟩] w fun e w' => e = .returned (.tuple #[.int .i64 A.length, .bool (headIs R name)]) ∧ Below w.heap.size w w' := by
  have C : ∀ W : World, Below w.heap.size w W → Calls Tryz.prog 122 #[v, .string ⟨name.toArray⟩, .func (.func 123) #[] #[]] W fun e w' =>
      e = .returned (.tuple #[.int .i64 A.length, .bool (headIs R name)]) ∧ Below W.heap.size W w' := fun W hW => by
    rcases hv with ⟨a, cap, rfl, h0, _⟩ | ⟨b, off, cap, rfl, _, _, hb, _, hr⟩
    · rw [h0] at he
      obtain ⟨rfl, rfl⟩ : A = [] ∧ R = [] := by
        have := congrArg List.length he
        simp at this
        exact ⟨List.eq_nil_of_length_eq_zero (by omega), List.eq_nil_of_length_eq_zero (by omega)⟩
      exact bsf_none a cap name W
    · subst he
      rw [List.length_append]
      exact bsf_any b off cap A R name W (by simpa using hl) (Nat.lt_of_lt_of_le hb hW.size) (hr.kept hW hb) lo hi
  have C' := hide C
  have V : ∃ a n c, v = .slice a n c := by
    rcases hv with ⟨a, cap, rfl, _, _⟩ | ⟨b, off, cap, rfl, _⟩
    · exact ⟨_, _, _, rfl⟩
    · exact ⟨_, _, _, rfl⟩
  obtain ⟨a, n, c, rfl⟩ := V
  clear C hv hl he lo hi
  generalize headIs R name = hd at C' ⊢
  go_enter Tryz.func93, Tryz.ntmps93
  go_wp2_with fail
  refine (unhide C' _ ((Below.refl _ _).alloc (Nat.le_refl _) _)).mono ?_
  rintro e w1 ⟨rfl, hb1⟩
  have hbz := dbox_then hb1
  go_wp2_with fail
  go_ret2
  exact ⟨rfl, hbz⟩
theorem find_there (v : Value) (fs A B : List DF) (f : DF) (name : List UInt8) (w : World) (hv : DiskV w v fs) (hl : fs.length ≤ 16) (T : There fs A f B name) :
    Calls Tryz.prog 93 #[.agg #[v], .string ⟨name.toArray⟩] w fun e w' => e = .returned (.tuple #[.int .i64 A.length, .bool true]) ∧ Below w.heap.size w w' := by
  have := find_split v fs A (f :: B) name w hv hl T.eq T.lo (fun a ha => by
    rcases List.mem_cons.1 ha with rfl | h
    · rw [T.nm]; exact bl_irrefl _
    · exact bl_asymm (T.hi a h))
  rwa [show headIs (f :: B) name = true from by simp [headIs, T.nm]] at this
theorem find_gap (v : Value) (fs A B : List DF) (name : List UInt8) (w : World) (hv : DiskV w v fs) (hl : fs.length ≤ 16) (G : Gap fs A B name) :
    Calls Tryz.prog 93 #[.agg #[v], .string ⟨name.toArray⟩] w fun e w' => e = .returned (.tuple #[.int .i64 A.length, .bool false]) ∧ Below w.heap.size w w' := by
  have := find_split v fs A B name w hv hl G.eq G.lo (fun a ha => bl_asymm (G.hi a ha))
  rwa [show headIs B name = false from by
    cases B with
    | nil => rfl
    | cons f B => have := bl_ne (G.hi f (by simp)); simp [headIs, this.symm]] at this

end Go.Proofs.YtoacignhobchbaaGreatDoor

namespace Go.Proofs.YtoacignhobchbaaGreatDoor
open Go.RowKit

theorem fileOk_short {f : DF} (h1 : namedB f.n = false) : fileOk f = false := by simp [fileOk, h1]
theorem fileOk_long {f : DF} (h : 1048576 < f.s.length + f.t.length) : fileOk f = false := by simp [fileOk]; intro _; omega
theorem fileOk_yes {f : DF} (h1 : namedB f.n = true) (h : f.s.length + f.t.length ≤ 1048576) : fileOk f = true := by simp [fileOk, h1, h]
theorem dbcell {W w1 : World} (hb : Below W.heap.size W w1) : (∀ b o, b < W.heap.size → w1.cell? ⟨b, o, none⟩ = W.cell? ⟨b, o, none⟩) ∧ (∀ b o, b < W.heap.size → w1.frozen? ⟨b, o, none⟩ = W.frozen? ⟨b, o, none⟩) :=
  ⟨fun b o h => hb.cell (p := ⟨b, o, none⟩) h, fun b o h => hb.frozen (p := ⟨b, o, none⟩) h⟩
/-- each text is no longer than memory may hold -/
def Slim (fs : List DF) : Prop := ∀ f ∈ fs, f.n.length ≤ 140737488355328 ∧ f.s.length ≤ 140737488355328 ∧ f.t.length ≤ 140737488355328
theorem dnamed (n : List UInt8) (h : n.length ≤ 140737488355328) (w : World) :
    Calls Tryz.prog 92 #[.string ⟨n.toArray⟩] w fun e w' => e = .returned (.bool (namedB n)) ∧ w' = w :=
  named_any ⟨n.toArray⟩ w (by have : (ByteArray.mk n.toArray).size = n.length := rfl; unfold maxLen; omega)

set_option maxRecDepth 10000 in
set_option maxHeartbeats 1000000 in
theorem dgood_none (a : Option Addr) (cap : Nat) (w : World) :
    Calls Tryz.prog 91 #[.agg #[.slice a 0 cap]] w fun e w' => e = .returned (.bool true) ∧ Below w.heap.size w w' := by
  go_enter Tryz.func91, Tryz.ntmps91
  go_wp2_with fail
  go_loopg [12] 1 (fun _ s12 wr => s12 = .int .i64 0 ∧ Hid (Below w.heap.size w wr))
  case atStart => exact ⟨rfl, hide ((Below.refl _ _).alloc (Nat.le_refl _) _)⟩
  case round =>
    obtain ⟨rfl, hB⟩ := hrel
    go_wp2_with fail
    go_ret
    exact ⟨rfl, unhide hB⟩

set_option maxRecDepth 10000 in
set_option maxHeartbeats 1000000 in
theorem dgood_long (b off cap n : Nat) (hn : 16 < n) (w : World) :
    Calls Tryz.prog 91 #[.agg #[.slice (some ⟨b, off, none⟩) n cap]] w fun e w' => e = .returned (.bool false) ∧ Below w.heap.size w w' := by
  go_enter Tryz.func91, Tryz.ntmps91
  go_wp2_with fail
  go_ret
  exact ⟨rfl, (Below.refl _ _).alloc (Nat.le_refl _) _⟩

set_option maxRecDepth 10000 in
set_option maxHeartbeats 2000000 in
theorem dgood_some (b off cap : Nat) (fs : List DF) (w : World) (hs : Slim fs) (hl : fs.length ≤ 16) (hb : b < w.heap.size) (h : RowAt w b off (cellsF fs)) :
    Calls Tryz.prog 91 #[.agg #[.slice (some ⟨b, off, none⟩) fs.length cap]] w fun e w' => e = .returned (.bool (goodD fs)) ∧ Below w.heap.size w w' := by
  have H := hide h
  have HS := hide hs
  have NO := hide (fun (k : Nat) (f : DF) => @bad_file fs k f)
  have NR := hide (fun (k : Nat) (f g : DF) => @bad_order fs k f g)
  have YES := hide (good_of_okTo hl)
  have Z := hide (okTo_zero fs)
  have SU := hide (fun (k : Nat) (f : DF) (h : OkTo fs k) => okTo_succ (f := f) h)
  have hb0 : b ≠ w.heap.size := by omega
  clear h hs
  generalize goodD fs = G at NO NR YES ⊢
  go_enter Tryz.func91, Tryz.ntmps91
  go_wp2_with fail
  go_loopg [12] fs.length (fun kx s12 wr => ∃ k : Nat, s12 = .int .i64 k ∧ k ≤ fs.length ∧ fs.length - k ≤ kx ∧ Hid (Below w.heap.size w wr ∧ w.heap.size < wr.heap.size ∧ wr.cell? ⟨w.heap.size, 0, none⟩ = some (.slice (some ⟨b, off, none⟩) fs.length cap)) ∧ Hid (OkTo fs k))
  case atStart => exact ⟨0, rfl, Nat.zero_le _, by omega, hide ⟨(Below.refl _ _).alloc (Nat.le_refl _) _, by simp, by simp⟩, Z⟩
  case round =>
    obtain ⟨k, rfl, hk, hg, hB, hO⟩ := hrel
    by_cases hlt : k < fs.length
    · obtain ⟨f, hf⟩ : ∃ f, fs[k]? = some f := ⟨_, List.getElem?_eq_getElem hlt⟩
      have HF := hide hf
      have r := (unhide H).kept (unhide hB).1 hb
      have e0 := r.c0 hf
      have e1 := r.c1 hf
      have e2 := r.c2 hf
      have hsl := unhide HS f (List.mem_of_getElem? hf)
      have hbw : b < wr.heap.size := Nat.lt_of_lt_of_le hb (unhide hB).1.size
      have h00 := (unhide hB).2.2
      clear hf r
      cases hn : namedB f.n with
      | false =>
        have HN := hide hn
        have CN := fun W => dnamed f.n hsl.1 W
        rw [hn] at CN
        clear hn
        go_wp2_with fail
        refine (CN _).mono ?_
        rintro e w1 ⟨rfl, rfl⟩
        clear CN
        go_wp2_with fail
        go_ret
        exact ⟨ret_bool (unhide NO k f (unhide HF) (fileOk_short (unhide HN))).symm, (unhide hB).1.alloc (by have := (unhide hB).1.size; omega) _⟩
      | true =>
        have HN := hide hn
        have CN := fun W => dnamed f.n hsl.1 W
        rw [hn] at CN
        clear hn
        have HL := hide hsl
        have hsum : f.s.length + f.t.length ≤ 9223372036854775807 := by omega
        have CS := fun W => dsize_any f W hsum
        obtain ⟨L, hL⟩ : ∃ L, f.s.length + f.t.length = L := ⟨_, rfl⟩
        rw [hL] at CS
        have HL2 := hide hL
        have hLb : L ≤ 9223372036854775807 := by omega
        clear hsl hsum hL
        go_wp2_with fail
        refine (CN _).mono ?_
        rintro e w1 ⟨rfl, rfl⟩
        clear CN
        by_cases hbig : L ≤ 1048576
        · have hok := fileOk_yes (unhide HN) (by rw [unhide HL2]; exact hbig)
          go_wp2_with fail
          refine (CS _).mono ?_
          rintro e w2 ⟨rfl, hb2⟩
          clear CS
          obtain ⟨hc, hf⟩ := dbcell hb2
          have hB2 : Below w.heap.size w w2 := (unhide hB).1.trans (dbox_then hb2 |>.mono (unhide hB).1.size)
          have h01 : w2.cell? ⟨w.heap.size, 0, none⟩ = some (.slice (some ⟨b, off, none⟩) fs.length cap) := by
            rw [hc _ _ (by have := (unhide hB).2.1; simp; omega), ((Below.refl wr.heap.size wr).alloc (Nat.le_refl _) _).cell (p := ⟨w.heap.size, 0, none⟩) (unhide hB).2.1]; exact h00
          have hz : w2.cell? ⟨wr.heap.size, 0, none⟩ = some (.string ⟨f.n.toArray⟩) := by
            rw [hc _ _ (by simp)]; simp
          have hlt2 : w.heap.size < w2.heap.size := by have := hb2.size; have := (unhide hB).2.1; simp at *; omega
          clear hc hf hb2 h00 e0 e1 e2
          rcases Nat.eq_zero_or_pos k with hk0 | hk0
          · subst hk0
            have OK2 := hide (unhide SU 0 f (unhide hO) (unhide HF) hok (fun g h => absurd h (Nat.lt_irrefl 0)))
            go_wp2_with fail
            go_region
            go_wp2_with fail
            go_roundg (fs.length - 1)
            case measure => omega
            case rel => exact ⟨1, rfl, by omega, Nat.le_refl _, hide ⟨hB2.drew, hlt2, h01⟩, OK2⟩
          · obtain ⟨m, rfl⟩ : ∃ m, k = m + 1 := ⟨k - 1, by omega⟩
            obtain ⟨g, hg⟩ : ∃ g, fs[m]? = some g := ⟨_, List.getElem?_eq_getElem (by omega)⟩
            have r := (unhide H).kept hB2 hb
            have e0 := r.c0 hg
            have HG := hide hg
            clear r hg
            have hm1 : (m : Int) < (fs.length : Int) := by omega
            cases hbl : bl g.n f.n with
            | true =>
              have OK2 := hide (unhide SU (m + 1) f (unhide hO) (unhide HF) hok (fun g' _ h => by
                rw [Nat.add_sub_cancel, unhide HG] at h
                cases h
                exact hbl))
              have hbl' : Op.bytesLess g.n f.n = true := hbl
              clear hbl
              go_wp2_with fail
              go_region
              go_wp2_with fail
              go_roundg (fs.length - (m + 1 + 1))
              case measure => omega
              case rel => exact ⟨m + 1 + 1, rfl, by omega, Nat.le_refl _, hide ⟨hB2.drew, hlt2, h01⟩, OK2⟩
            | false =>
              have hbl' : Op.bytesLess g.n f.n = false := hbl
              have GF := (unhide NR (m + 1) f g (unhide HF) (by simpa using unhide HG) (by omega) hbl).symm
              have HGF := hide GF
              clear hbl GF
              go_wp2_with fail
              go_region
              go_wp2_with fail
              go_ret
              exact ⟨ret_bool (unhide HGF), hB2.drew⟩
        · go_wp2_with fail
          refine (CS _).mono ?_
          rintro e w2 ⟨rfl, hb2⟩
          have hB2 : Below w.heap.size w w2 := (unhide hB).1.trans (dbox_then hb2 |>.mono (unhide hB).1.size)
          clear CS hb2
          go_wp2_with fail
          go_ret
          exact ⟨ret_bool (unhide NO k f (unhide HF) (fileOk_long (by rw [unhide HL2]; omega))).symm, hB2⟩
    · have hkk : k = fs.length := by omega
      subst hkk
      go_wp2_with fail
      go_ret
      exact ⟨ret_bool (unhide YES (unhide hO)).symm, (unhide hB).1⟩

theorem goodD_nil : goodD [] = true := goodD_true.2 ⟨by decide, by simp, List.Pairwise.nil⟩
theorem dgood_any (v : Value) (fs : List DF) (w : World) (hv : DiskV w v fs) (hs : Slim fs) :
    Calls Tryz.prog 91 #[.agg #[v]] w fun e w' => e = .returned (.bool (goodD fs)) ∧ Below w.heap.size w w' := by
  rcases hv with ⟨a, cap, rfl, rfl, _⟩ | ⟨b, off, cap, rfl, _, _, hb, _, hr⟩
  · rw [goodD_nil]; exact dgood_none a cap w
  · by_cases hl : fs.length ≤ 16
    · exact dgood_some b off cap fs w hs hl hb hr
    · rw [bad_len (by omega)]; exact dgood_long b off cap fs.length (by omega) w
end Go.Proofs.YtoacignhobchbaaGreatDoor

namespace Go.Proofs.YtoacignhobchbaaGreatDoor
open Go.RowKit
set_option maxRecDepth 10000 in

set_option maxHeartbeats 400000 in
theorem dclone_any (s : List UInt8) (w : World) (hs : s.length ≤ 281474976710656) :
    Calls Tryz.prog 69 #[.string ⟨s.toArray⟩] w fun e w' => e = .returned (.string ⟨s.toArray⟩) ∧ Below w.heap.size w w' := by
  have C := fun W => Tryz.stringslite_Clone ⟨s.toArray⟩ W (show (ByteArray.mk s.toArray).size ≤ _ from hs)
  go_enter Tryz.func69, Tryz.ntmps69
  go_wp2_with fail
  refine (C _).mono ?_
  rintro e w1 ⟨rfl, hb1⟩
  go_wp2_with fail
  go_ret
  exact ⟨rfl, hb1⟩

theorem info_file0 : (Tryz.prog.info? 87).map (fun i => (i.zero, i.size, i.bytes)) = some (some (.agg #[.string ⟨#[]⟩, .string ⟨#[]⟩, .string ⟨#[]⟩]), 3, 48) := by kernel_rfl
theorem info_file : ∃ i0, Tryz.prog.info? 87 = some i0 ∧ i0.zero = some (.agg #[.string ⟨#[]⟩, .string ⟨#[]⟩, .string ⟨#[]⟩]) ∧ i0.size = 3 ∧ i0.bytes = 48 := by
  obtain ⟨i0, h, e⟩ := Option.map_eq_some_iff.1 info_file0
  simp only [Prod.mk.injEq] at e
  exact ⟨i0, h, e⟩

set_option maxRecDepth 10000 in
set_option maxHeartbeats 2000000 in
theorem sclone_some (a : Addr) (cap : Nat) (fs : List DF) (w : World) (hl : fs.length ≤ 1000000) (hc : ∀ j u, (cellsF fs)[j]? = some u → w.cell? (a.add j) = some u) :
    Calls Tryz.prog 68 #[.slice (some a) fs.length cap] w fun e w' => ∃ v', e = .returned v' ∧ OwnV w' w.heap.size v' fs ∧ Below w.heap.size w w' := by
  have q22 : ∀ (w : World) (a : Option Addr) (n c n' c' : Nat), (binOp .eql 26 (.slice a n c) (.slice none n' c')).run Tryz.prog w = .ok (.bool a.isNone) w := fun w a n c n' c' => Lib.run_eql_slice_nil w _ _ a n c n' c' Tryz.underlying26
  have H : Hid (∀ j u, (cellsF fs)[j]? = some u → w.cell? (a.add j) = some u) := hc
  clear hc
  obtain ⟨i0, hi0, hz0, hz1, hz2⟩ := info_file
  go_enter Tryz.func68, Tryz.ntmps68
  go_wp2_with (at_builtin; refine wpList_append_own _ rfl _ _ 26 rfl w.heap.size 87 i0 _ 3 48 Tryz.underlying26 hi0 hz0 hz1 hz2 rfl (by decide) _ _ _ rfl (World.ownsRow_made w #[] 0 (Nat.le_refl _) (Nat.zero_le _) (by simp)) a fs.length cap (cellsF fs) rfl ?qc1 ?qc2 ?qc3 ?qc4 ?qc5 ?qc6 ?_)
  case qc1 => exact cellsF_length fs
  case qc2 =>
    intro j u hj
    exact Lib.cell?_alloc_some _ (H.out j u hj)
  case qc3 => exact cellsF_one fs
  case qc4 => simp only [maxLen]; omega
  case qc5 => omega
  case qc6 => simp
  intro v' w1 hown hgrow hnil
  go_wp2
  go_ret
  refine ⟨v', rfl, OwnV.of_row (by simpa using hown), ?_⟩
  exact ((Below.refl _ w).alloc (Nat.le_refl _) _).grown hgrow (by simp) (by intro k hk; simp [Value.ownBlock] at hk; omega)

set_option maxRecDepth 10000 in
set_option maxHeartbeats 400000 in
theorem sclone_nil (n c : Nat) (w : World) :
    Calls Tryz.prog 68 #[.slice none n c] w fun e w' => e = .returned (.slice none 0 0) ∧ w' = w := by
  have q22 : ∀ (w : World) (a : Option Addr) (n c n' c' : Nat), (binOp .eql 26 (.slice a n c) (.slice none n' c')).run Tryz.prog w = .ok (.bool a.isNone) w := fun w a n c n' c' => Lib.run_eql_slice_nil w _ _ a n c n' c' Tryz.underlying26
  go_enter Tryz.func68, Tryz.ntmps68
  go_wp2
  go_ret
  exact ⟨rfl, rfl⟩

theorem sclone_any (v : Value) (fs : List DF) (w : World) (hv : DiskV w v fs) (hl : fs.length ≤ 1000000) :
    Calls Tryz.prog 68 #[v] w fun e w' => ∃ v', e = .returned v' ∧ OwnV w' w.heap.size v' fs ∧ Below w.heap.size w w' := by
  rcases hv with ⟨a, cap, rfl, rfl, _⟩ | ⟨b, off, cap, rfl, _, _, hb, _, hr⟩
  · cases a with
    | none => exact (sclone_nil 0 cap w).mono fun e w' ⟨he, hw⟩ => ⟨_, he, .inl ⟨rfl, rfl⟩, by rw [hw]; exact Below.refl _ _⟩
    | some a => exact sclone_some a cap [] w (by simp) (fun j u h => by simp [cellsF] at h)
  · exact sclone_some ⟨b, off, none⟩ cap fs w hl (fun j u h => by rw [Addr.add_lit]; exact hr j u h)

theorem set_same {w : World} {a : Addr} {v : Value} (h : w.cell? a = some v) : w.setCell a v = w := by
  obtain ⟨heap, tape, drawn, os, output⟩ := w
  simp only [World.setCell, World.cell?] at *
  congr 1
  apply Array.ext_getElem?
  intro k
  rw [Array.getElem?_modify]
  by_cases hk : a.block = k
  · subst hk
    simp only [if_true]
    cases ho : heap[a.block]? with
    | none => rfl
    | some o =>
      rw [ho] at h
      cases o with
      | cells c e fz =>
        simp only at h
        by_cases hs : a.spot.isSome = true
        · simp [hs] at h
        · simp only [hs] at h
          simp [hs]
          have hlt : a.off < c.size := (Array.getElem?_eq_some_iff.1 (by simpa using h)).1
          have hv : c[a.off] = v := (Array.getElem?_eq_some_iff.1 (by simpa using h)).2
          rw [← hv]
          simp [Array.setIfInBounds, hlt]
      | _ => simp at h
  · simp [hk]

theorem dbelow_next {w W V : World} (h : Below w.heap.size w W) (h' : Below W.heap.size W V) : Below w.heap.size w V := h.trans (h'.mono h.size)

set_option maxRecDepth 10000 in
set_option maxHeartbeats 1000000 in
theorem copied_any (v : Value) (fs : List DF) (w : World) (hv : DiskV w v fs) (hs : Slim fs) (hl : fs.length ≤ 16) :
    Calls Tryz.prog 95 #[.agg #[v]] w fun e w' => ∃ v', e = .returned (.agg #[v']) ∧ OwnV w' w.heap.size v' fs ∧ Below w.heap.size w w' := by
  have V : ∃ a n c, v = .slice a n c := by
    rcases hv with ⟨a, cap, rfl, _, _⟩ | ⟨b, off, cap, rfl, _⟩
    · exact ⟨_, _, _, rfl⟩
    · exact ⟨_, _, _, rfl⟩
  have HV := hide hv
  have HS := hide hs
  obtain ⟨a, n, c, rfl⟩ := V
  clear hv hs
  go_enter Tryz.func95, Tryz.ntmps95
  go_wp2_with fail
  refine (sclone_any _ fs _ ((unhide HV).next (((Below.refl _ _).alloc (Nat.le_refl _) _).alloc (by simp) _)) (by omega)).mono ?_
  rintro e w1 ⟨v', rfl, ho, hb1⟩
  have hB1 : Below w.heap.size w w1 := dbox_then (dbox_then hb1)
  have c1 : w1.cell? ⟨w.heap.size + 1, 0, none⟩ = some (.slice none 0 0) := by
    rw [hb1.cell (p := ⟨w.heap.size + 1, 0, none⟩) (by simp)]; simp
  have f1 : w1.frozen? ⟨w.heap.size + 1, 0, none⟩ = false := by
    rw [hb1.frozen (p := ⟨w.heap.size + 1, 0, none⟩) (by simp)]; simp
  have hz : w.heap.size + 1 < w1.heap.size := by have := hb1.size; simp at this; omega
  have hs2 : ((w.alloc (Obj.cells #[Value.slice a n c] 28)).alloc (Obj.cells #[Value.slice none 0 0] 28)).heap.size = w.heap.size + 2 := by simp
  rw [hs2] at ho
  clear hb1 hs2
  rcases ho with ⟨rfl, rfl⟩ | ⟨g, cap, rfl, hg, ho⟩
  · go_wp2_with fail
    go_loopg [11] 1 (fun _ s wr => s = .int .i64 0 ∧ wr = w1)
    case atStart => exact ⟨rfl, rfl⟩
    case round =>
      obtain ⟨rfl, rfl⟩ := hrel
      go_wp2_with fail
      exact bodyPost_ret (v := .agg #[.slice none 0 0]) (by simp [results, Tryz.results95, go_sem, c1]) rfl ⟨_, rfl, .inl ⟨rfl, rfl⟩, hB1.setCell (by simp) _⟩
  · have HO := hide ho
    have hgl := ho.lt
    clear ho
    go_wp2_with fail
    go_loopg [11] fs.length (fun kx s wr => ∃ k : Nat, s = .int .i64 k ∧ k ≤ fs.length ∧ fs.length - k ≤ kx ∧ Hid (Below w1.heap.size w1 wr))
    case atStart => exact ⟨0, rfl, Nat.zero_le _, by omega, hide (Below.refl _ _)⟩
    case round =>
      obtain ⟨k, rfl, hk, hkx, hB⟩ := hrel
      by_cases hlt : k < fs.length
      · obtain ⟨f, hf⟩ : ∃ f, fs[k]? = some f := ⟨_, List.getElem?_eq_getElem hlt⟩
        have o := (unhide HO).next (unhide hB)
        have hgl2 := o.lt
        have e0 := o.c0 hf
        have e1 := o.c1 hf
        have e2 := o.c2 hf
        have f0 := o.frozen (k * 3)
        have f1 := o.frozen (k * 3 + 1)
        have f2 := o.frozen (k * 3 + 2)
        have hsl := unhide HS f (List.mem_of_getElem? hf)
        clear hf o
        obtain ⟨fn, fss, ft⟩ := f
        have k0 := fun W => dclone_any fn W (by have := hsl.1; simp at this; omega)
        have k1 := fun W => dclone_any fss W (by have := hsl.2.1; simp at this; omega)
        have k2 := fun W => dclone_any ft W (by have := hsl.2.2; simp at this; omega)
        simp only at e0 e1 e2
        clear hsl
        go_wp2_with fail
        have d0 : ∀ d os, (Sort.grow (redrawn wr d) os).cell? ⟨g, k * 3, none⟩ = some (.string ⟨fn.toArray⟩) := fun d os => cell_regrown e0 d os
        have d1 : ∀ d os, (Sort.grow (redrawn wr d) os).cell? ⟨g, k * 3 + 1, none⟩ = some (.string ⟨fss.toArray⟩) := fun d os => cell_regrown e1 d os
        have d2 : ∀ d os, (Sort.grow (redrawn wr d) os).cell? ⟨g, k * 3 + 2, none⟩ = some (.string ⟨ft.toArray⟩) := fun d os => cell_regrown e2 d os
        have g0 : ∀ d os, (Sort.grow (redrawn wr d) os).frozen? ⟨g, k * 3, none⟩ = false := fun d os => by rw [(below_regrown wr d os).frozen (p := ⟨g, k * 3, none⟩) hgl2]; exact f0
        have g1 : ∀ d os, (Sort.grow (redrawn wr d) os).frozen? ⟨g, k * 3 + 1, none⟩ = false := fun d os => by rw [(below_regrown wr d os).frozen (p := ⟨g, k * 3 + 1, none⟩) hgl2]; exact f1
        have g2 : ∀ d os, (Sort.grow (redrawn wr d) os).frozen? ⟨g, k * 3 + 2, none⟩ = false := fun d os => by rw [(below_regrown wr d os).frozen (p := ⟨g, k * 3 + 2, none⟩) hgl2]; exact f2
        have s0 : ∀ d os, (Sort.grow (redrawn wr d) os).setCell ⟨g, k * 3, none⟩ (.string ⟨fn.toArray⟩) = Sort.grow (redrawn wr d) os := fun d os => set_same (d0 d os)
        have s1 : ∀ d os, (Sort.grow (redrawn wr d) os).setCell ⟨g, k * 3 + 1, none⟩ (.string ⟨fss.toArray⟩) = Sort.grow (redrawn wr d) os := fun d os => set_same (d1 d os)
        have s2 : ∀ d os, (Sort.grow (redrawn wr d) os).setCell ⟨g, k * 3 + 2, none⟩ (.string ⟨ft.toArray⟩) = Sort.grow (redrawn wr d) os := fun d os => set_same (d2 d os)
        have c0 := fun d os => Calls.regrown_of (w := wr) (d := d) (os := os) (k0 _)
        have c1' := fun d os => Calls.regrown_of (w := wr) (d := d) (os := os) (k1 _)
        have c2 := fun d os => Calls.regrown_of (w := wr) (d := d) (os := os) (k2 _)
        clear k0 k1 k2 e0 e1 e2 f0 f1 f2
        refine wp_region_quiet_below (by kernel_rfl) (by kernel_rfl) ?_
        repeat (first | go_big_quiet_step (first | with_reducible exact c0 _ _ | with_reducible exact c1' _ _ | with_reducible exact c2 _ _) | quiet_step (first | with_reducible exact c0 _ _ | with_reducible exact c1' _ _ | with_reducible exact c2 _ _))
        refine wpQuiet_nil ?_
        intro _ hw'
        obtain ⟨⟨dq, osq⟩, hw''⟩ := hw'
        subst hw''
        have hb2 := dbelow_next (unhide hB) (below_regrown wr dq osq)
        clear c0 c1' c2 s0 s1 s2 d0 d1 d2 g0 g1 g2
        go_wp2_with fail
        go_roundg (fs.length - (k + 1))
        case measure => omega
        case rel => exact ⟨k + 1, rfl, by omega, Nat.le_refl _, hide hb2⟩
      · have c2 : wr.cell? ⟨w.heap.size + 1, 0, none⟩ = some (.slice none 0 0) := by
          rw [(unhide hB).cell (p := ⟨w.heap.size + 1, 0, none⟩) hz]; exact c1
        have f2 : wr.frozen? ⟨w.heap.size + 1, 0, none⟩ = false := by
          rw [(unhide hB).frozen (p := ⟨w.heap.size + 1, 0, none⟩) hz]; exact f1
        have hgw : g ≠ w.heap.size + 1 := by omega
        go_wp2_with fail
        exact bodyPost_ret (v := .agg #[.slice (some ⟨g, 0, none⟩) fs.length cap]) (by simp [results, Tryz.results95, go_sem, c2]) rfl
          ⟨_, rfl, .inr ⟨g, cap, rfl, by omega, ((unhide HO).next (unhide hB)).other hgw _⟩, (dbelow_next hB1 (unhide hB)).setCell (by simp) _⟩
end Go.Proofs.YtoacignhobchbaaGreatDoor

namespace Go.Proofs.YtoacignhobchbaaGreatDoor
open Go.RowKit

theorem grown_set {w : World} {g j : Nat} (v : Value) : w.grownBy (w.setCell ⟨g, j, none⟩ v) (some g) := ⟨rfl, rfl, rfl, by simp [World.setCell], fun k _ hne => Below.heap_setCell w ⟨g, j, none⟩ v k (fun e => hne (by rw [e]))⟩
theorem grown_drew {w w' : World} {r : Option Nat} (h : w.grownBy w' r) : w.grownBy w'.drew r := ⟨h.os, h.tape, h.output, h.size, h.block⟩
theorem grown_trans {w w' w'' : World} {g : Nat} (h : w.grownBy w' (some g)) (h' : w'.grownBy w'' (some g)) : w.grownBy w'' (some g) :=
  ⟨h'.os.trans h.os, h'.tape.trans h.tape, h'.output.trans h.output, Nat.le_trans h.size h'.size, fun k hk hne => (h'.block k (Nat.lt_of_lt_of_le hk h.size) hne).trans (h.block k hk hne)⟩
theorem dgrown_below {w w' : World} {g : Nat} (h : Below w.heap.size w w') : w.grownBy w' (some g) := ⟨h.os, h.tape, h.output, h.size, fun k hk _ => h.block k hk⟩

theorem dcat_one (l m : List UInt8) : (ByteArray.mk l.toArray) ++ (ByteArray.mk m.toArray) = ⟨(l ++ m).toArray⟩ := by
  have h : ((ByteArray.mk l.toArray) ++ (ByteArray.mk m.toArray)).data.toList = l ++ m := by simp [ByteArray.data_append]
  exact congrArg (fun l : List UInt8 => ByteArray.mk l.toArray) h
theorem dex_front (l : List UInt8) (d : Nat) : (ByteArray.mk l.toArray).extract 0 d = ⟨(l.take d).toArray⟩ := by
  apply ByteArray.ext
  apply Array.toList_inj.1
  have h := Lib.extract_toList (ByteArray.mk l.toArray) 0 d
  rw [Lib.toList_data] at h
  refine h.trans ?_
  show (l.drop 0).take (d - 0) = _
  simp

set_option maxRecDepth 10000 in
set_option maxHeartbeats 1000000 in
theorem settle_any (g cap k : Nat) (fs : List DF) (f : DF) (n : Nat) (w : World) (ho : Own w g cap fs) (hk : fs[k]? = some f) (hn : n ≤ f.s.length + f.t.length) (hf : f.s.length + f.t.length ≤ 1048576) :
    Calls Tryz.prog 100 #[.pointer (some ⟨g, k * 3, none⟩), .int .i64 n] w fun e w' =>
      e = .returned (.tuple #[]) ∧ Own w' g cap (fs.set k ⟨f.n, (f.s ++ f.t).take n, []⟩) ∧ w.grownBy w' (some g) := by
  have e1 := ho.c1 hk
  have e2 := ho.c2 hk
  have f1 := ho.frozen (k * 3 + 1)
  have f2 := ho.frozen (k * 3 + 2)
  have HO := hide ho
  have HK := hide hk
  clear ho hk
  obtain ⟨fn, fss, ft⟩ := f
  simp only at *
  have hn1 : (n : Int) ≤ (fss.length : Int) + (ft.length : Int) := by omega
  go_enter Tryz.func100, Tryz.ntmps100
  go_wp2_with fail
  go_region
  go_wp2_with fail
  go_end0
  refine ⟨rfl, ?_, ?_⟩
  · rw [dcat_one, dex_front]
    have h1 := (unhide HO).s1 (unhide HK) ((fss ++ ft).take n)
    have h2 := h1.s2 (f := ⟨fn, (fss ++ ft).take n, ft⟩) (by rw [List.getElem?_set_self (List.getElem?_eq_some_iff.1 (unhide HK)).1]) []
    rw [List.set_set] at h2
    exact h2
  · exact grown_drew (grown_trans (grown_set _) (grown_set _))

set_option maxRecDepth 10000 in
set_option maxHeartbeats 1000000 in
theorem extend_any (g cap k : Nat) (fs : List DF) (f : DF) (x : List UInt8) (w : World) (ho : Own w g cap fs) (hk : fs[k]? = some f) (hx : x.length ≤ 1048576) (hf : f.t.length ≤ 1048576) :
    Calls Tryz.prog 97 #[.pointer (some ⟨g, k * 3, none⟩), .string ⟨x.toArray⟩] w fun e w' =>
      e = .returned (.tuple #[]) ∧ Own w' g cap (fs.set k ⟨f.n, f.s, f.t ++ x⟩) ∧ w.grownBy w' (some g) := by
  have e2 := ho.c2 hk
  have f2 := ho.frozen (k * 3 + 2)
  have HO := hide ho
  have HK := hide hk
  have hg := ho.lt
  clear ho hk
  obtain ⟨fn, fss, ft⟩ := f
  simp only at *
  have C := fun W => dclone_any x W (by omega)
  have hlen : ¬ 9223372036854775807 < ft.length + x.length := by omega
  go_enter Tryz.func97, Tryz.ntmps97
  go_wp2_with fail
  go_region_with (first | (go_at_call 69; refine (C _).mono ?_; rintro e w1 ⟨rfl, hb1⟩; have e3 : w1.cell? ⟨g, k * 3 + 2, none⟩ = some (.string ⟨ft.toArray⟩) := (hb1.cell (p := ⟨g, k * 3 + 2, none⟩) hg).trans e2; have f3 : w1.frozen? ⟨g, k * 3 + 2, none⟩ = false := (hb1.frozen (p := ⟨g, k * 3 + 2, none⟩) hg).trans f2))
  all_goals go_wp2_with fail
  all_goals
    have hb : Below w.heap.size w w1 := ((Below.refl _ w).drew).trans hb1
    go_end0
    refine ⟨rfl, ?_, grown_trans (dgrown_below hb) (grown_set _)⟩
    rw [dcat_one]
    exact ((unhide HO).next hb).s2 (unhide HK) (ft ++ x)
end Go.Proofs.YtoacignhobchbaaGreatDoor

namespace Go.Proofs.YtoacignhobchbaaGreatDoor
open Go.RowKit

theorem block_setCells {g : Nat} {t : TypeId} {fz : Nat × Nat} : ∀ (vs : List Value) (o : Nat) (w : World) (l : List Value), w.heap[g]? = some (.cells l.toArray t fz) → o + vs.length ≤ l.length →
    (w.setCells g o vs).heap[g]? = some (.cells (l.take o ++ vs ++ l.drop (o + vs.length)).toArray t fz)
  | [], o, w, l, h, _ => by simpa [World.setCells] using h
  | v :: r, o, w, l, h, hl => by
    have h1 : (w.setCell ⟨g, o, none⟩ v).heap[g]? = some (.cells (l.set o v).toArray t fz) := by rw [block_set v h]; simp
    rw [World.setCells, block_setCells r (o + 1) _ _ h1 (by simp at hl ⊢; omega)]
    have ho : o < l.length := by simp at hl; omega
    have e1 : (l.set o v).take (o + 1) = l.take o ++ [v] := by
      rw [List.take_set, List.take_succ_eq_append_getElem ho, List.set_append_right _ _ (by simp; omega)]
      simp [Nat.min_eq_left (Nat.le_of_lt ho)]
    have e2 : (l.set o v).drop (o + 1 + r.length) = l.drop (o + (r.length + 1)) := by
      rw [List.drop_set_of_lt (by omega)]; congr 1; omega
    rw [e1, e2]
    simp
theorem grown_setCells {g : Nat} : ∀ (vs : List Value) (o : Nat) (w : World), w.grownBy (w.setCells g o vs) (some g)
  | [], _, _ => ⟨rfl, rfl, rfl, Nat.le_refl _, fun _ _ _ => rfl⟩
  | v :: r, o, _ => grown_trans (grown_set v) (grown_setCells r (o + 1) _)

/-- new files laid behind the first ones -/
theorem Own.splice {W : World} {g cap : Nat} {pre tl : List DF} (h : Own W g cap (pre ++ tl)) (new : List DF) (hfit : pre.length + new.length ≤ cap) : Own (W.setCells g (pre.length * 3) (cellsF new)) g cap (pre ++ new) := by
  obtain ⟨rest, h1, h2, h3⟩ := h
  have hlen : (cellsF (pre ++ tl) ++ rest).length = cap * 3 := by rw [List.length_append, cellsF_length]; exact h2
  refine ⟨(cellsF (pre ++ tl) ++ rest).drop (pre.length * 3 + (cellsF new).length), ?_, ?_, h3⟩
  · rw [block_setCells (cellsF new) (pre.length * 3) W _ h1 (by rw [hlen, cellsF_length]; omega), cellsF_append pre new]
    congr 3
    have e : cellsF (pre ++ tl) ++ rest = cellsF pre ++ (cellsF tl ++ rest) := by rw [cellsF_append, List.append_assoc]
    rw [e, ← cellsF_length pre, List.take_left]
  · rw [List.length_drop, hlen, cellsF_length, List.length_append]; omega
/-- cells behind the files -/
theorem Own.spare {W : World} {g cap : Nat} {fs : List DF} (h : Own W g cap fs) (vs : List Value) (o : Nat) (ho : fs.length * 3 ≤ o) (hfit : o + vs.length ≤ cap * 3) : Own (W.setCells g o vs) g cap fs := by
  obtain ⟨rest, h1, h2, h3⟩ := h
  have hlen : (cellsF fs ++ rest).length = cap * 3 := by rw [List.length_append, cellsF_length]; exact h2
  have hc := cellsF_length fs
  refine ⟨rest.take (o - fs.length * 3) ++ vs ++ (cellsF fs ++ rest).drop (o + vs.length), ?_, ?_, h3⟩
  · rw [block_setCells vs o W _ h1 (by rw [hlen]; omega)]
    congr 2
    rw [List.take_append, List.take_of_length_le (by omega), hc]
    simp only [List.append_assoc]
  · simp only [List.length_append, List.length_take, List.length_drop, hc]
    omega
/-- one file for another -/
theorem Own.swap1 {W : World} {g cap : Nat} {A B : List DF} {y : DF} (h : Own W g cap (A ++ y :: B)) (x : DF) : Own (W.setCells g (A.length * 3) (fcells x)) g cap (A ++ x :: B) := by
  obtain ⟨rest, h1, h2, h3⟩ := h
  have hlen : (cellsF (A ++ y :: B) ++ rest).length = cap * 3 := by rw [List.length_append, cellsF_length]; exact h2
  refine ⟨rest, ?_, by simpa using h2, h3⟩
  have hA := cellsF_length A
  rw [block_setCells (fcells x) (A.length * 3) W _ h1 (by rw [hlen]; simp [fcells] at h2 ⊢; omega)]
  have e : cellsF (A ++ y :: B) ++ rest = cellsF A ++ (fcells y ++ (cellsF B ++ rest)) := by simp [cellsF_append, cellsF]
  have e' : cellsF (A ++ x :: B) ++ rest = cellsF A ++ (fcells x ++ (cellsF B ++ rest)) := by simp [cellsF_append, cellsF]
  rw [e, e']
  have hx3 : (fcells x).length = 3 := rfl
  have hy3 : (fcells y).length = 3 := rfl
  congr 2
  rw [hx3, ← hA, List.take_left, show (cellsF A).length + 3 = (cellsF A ++ fcells y).length by rw [List.length_append, hy3], ← List.append_assoc (cellsF A) (fcells y), List.drop_left, List.append_assoc]
end Go.Proofs.YtoacignhobchbaaGreatDoor

namespace Go.Proofs.YtoacignhobchbaaGreatDoor
open Go.RowKit

/-- where a file is not found: what is said -/
def LocNo (fs : List DF) (name : List UInt8) (E : Int) : Prop := (goodD fs = false ∧ E = 3) ∨ (GoodD fs ∧ (∃ A B, Gap fs A B name) ∧ E = 7)
theorem loc_cases (fs : List DF) (name : List UInt8) : (∃ E, LocNo fs name E) ∨ (GoodD fs ∧ ∃ A f B, There fs A f B name) := by
  cases hg : goodD fs with
  | false => exact .inl ⟨3, .inl ⟨hg, rfl⟩⟩
  | true =>
    have g := goodD_true.1 hg
    rcases where_is name fs g.asc with h | h
    · exact .inr ⟨g, h⟩
    · exact .inl ⟨7, .inr ⟨g, h, rfl⟩⟩
theorem disk_slice {w : World} {v : Value} {fs : List DF} (hv : DiskV w v fs) : ∃ a n c, v = .slice a n c := by
  rcases hv with ⟨a, cap, rfl, _, _⟩ | ⟨b, off, cap, rfl, _⟩
  · exact ⟨_, _, _, rfl⟩
  · exact ⟨_, _, _, rfl⟩

set_option maxRecDepth 10000 in
set_option maxHeartbeats 1000000 in
theorem locate_no (v : Value) (fs : List DF) (name : List UInt8) (E : Int) (w : World) (hv : DiskV w v fs) (hs : Slim fs) (h : LocNo fs name E) :
    Calls Tryz.prog 90 #[.agg #[v], .string ⟨name.toArray⟩] w fun e w' => e = .returned (.tuple #[.int .i64 0, .int .i64 E]) ∧ Below w.heap.size w w' := by
  obtain ⟨a, n, c, rfl⟩ := disk_slice hv
  have HV := hide hv
  have CG := fun W (h : Below w.heap.size w W) => dgood_any _ fs W (hv.next h) hs
  rcases h with ⟨hg, rfl⟩ | ⟨g, ⟨A, B, G⟩, rfl⟩
  · rw [hg] at CG
    clear hg hv hs
    go_enter Tryz.func90, Tryz.ntmps90
    go_wp2_with fail
    refine (CG _ ((Below.refl _ _).alloc (Nat.le_refl _) _)).mono ?_
    rintro e w1 ⟨rfl, hb1⟩
    have hbz := dbox_then hb1
    clear CG
    go_wp2_with fail
    go_ret2
    exact ⟨rfl, hbz⟩
  · rw [goodD_true.2 g] at CG
    have CF := fun W (h : Below w.heap.size w W) => find_gap _ fs A B name W (hv.next h) g.few G
    clear hv hs g G
    go_enter Tryz.func90, Tryz.ntmps90
    go_wp2_with fail
    refine (CG _ ((Below.refl _ _).alloc (Nat.le_refl _) _)).mono ?_
    rintro e w1 ⟨rfl, hb1⟩
    have hbz := dbox_then hb1
    have c1 : w1.cell? ⟨w.heap.size, 0, none⟩ = some (.slice a n c) := by rw [hb1.cell (p := ⟨w.heap.size, 0, none⟩) (by simp)]; simp
    clear CG hb1
    go_wp2_with fail
    refine (CF _ hbz).mono ?_
    rintro e w2 ⟨rfl, hb2⟩
    have hbx := dbelow_next hbz hb2
    clear CF
    go_wp2_with fail
    go_ret2
    exact ⟨rfl, hbx⟩

set_option maxRecDepth 10000 in
set_option maxHeartbeats 1000000 in
theorem locate_there (v : Value) (fs A B : List DF) (f : DF) (name : List UInt8) (w : World) (hv : DiskV w v fs) (hs : Slim fs) (g : GoodD fs) (T : There fs A f B name) :
    Calls Tryz.prog 90 #[.agg #[v], .string ⟨name.toArray⟩] w fun e w' => e = .returned (.tuple #[.int .i64 A.length, .int .i64 0]) ∧ Below w.heap.size w w' := by
  obtain ⟨a, n, c, rfl⟩ := disk_slice hv
  have CG := fun W (h : Below w.heap.size w W) => dgood_any _ fs W (hv.next h) hs
  rw [goodD_true.2 g] at CG
  have CF := fun W (h : Below w.heap.size w W) => find_there _ fs A B f name W (hv.next h) g.few T
  clear hv hs g T
  go_enter Tryz.func90, Tryz.ntmps90
  go_wp2_with fail
  refine (CG _ ((Below.refl _ _).alloc (Nat.le_refl _) _)).mono ?_
  rintro e w1 ⟨rfl, hb1⟩
  have hbz := dbox_then hb1
  have c1 : w1.cell? ⟨w.heap.size, 0, none⟩ = some (.slice a n c) := by rw [hb1.cell (p := ⟨w.heap.size, 0, none⟩) (by simp)]; simp
  clear CG hb1
  go_wp2_with fail
  refine (CF _ hbz).mono ?_
  rintro e w2 ⟨rfl, hb2⟩
  have hbx := dbelow_next hbz hb2
  clear CF
  go_wp2_with fail
  go_ret2
  exact ⟨rfl, hbx⟩

/-- a file that is there: the disk's value is a row, and this is a file of it -/
theorem there_row {w : World} {v : Value} {fs A B : List DF} {f : DF} {name : List UInt8} (hv : DiskV w v fs) (T : There fs A f B name) :
    ∃ b off cap, v = .slice (some ⟨b, off, none⟩) fs.length cap ∧ b < w.heap.size ∧ RowAt w b off (cellsF fs) ∧ fs[A.length]? = some f ∧ A.length < fs.length := by
  have hk : fs[A.length]? = some f := by rw [T.eq]; simp
  rcases hv with ⟨a, cap, rfl, rfl, _⟩ | ⟨b, off, cap, rfl, _, _, hb, _, hr⟩
  · simp at hk
  · exact ⟨b, off, cap, rfl, hb, hr, hk, (List.getElem?_eq_some_iff.1 hk).1⟩

set_option maxRecDepth 10000 in
set_option maxHeartbeats 1000000 in
theorem read_no (v : Value) (fs : List DF) (name : List UInt8) (E : Int) (w : World) (hv : DiskV w v fs) (hs : Slim fs) (h : LocNo fs name E) :
    Calls Tryz.prog 60 #[.agg #[v], .string ⟨name.toArray⟩] w fun e w' => e = .returned (.tuple #[.string ⟨#[]⟩, .int .i64 E]) ∧ Below w.heap.size w w' := by
  obtain ⟨a, n, c, rfl⟩ := disk_slice hv
  have C := fun W (hW : Below w.heap.size w W) => locate_no _ fs name E W (hv.next hW) hs h
  have hne : (E != 0) = true := by rcases h with ⟨_, rfl⟩ | ⟨_, _, rfl⟩ <;> decide
  clear hv hs h
  go_enter Tryz.func60, Tryz.ntmps60
  go_wp2_with fail
  refine (C _ ((Below.refl _ _).alloc (Nat.le_refl _) _)).mono ?_
  rintro e w1 ⟨rfl, hb1⟩
  have hbz := dbox_then hb1
  clear C
  go_wp2_with fail
  go_ret2
  exact ⟨rfl, hbz⟩

set_option maxRecDepth 10000 in
set_option maxHeartbeats 1000000 in
theorem read_there (v : Value) (fs A B : List DF) (f : DF) (name : List UInt8) (w : World) (hv : DiskV w v fs) (hs : Slim fs) (g : GoodD fs) (T : There fs A f B name) :
    Calls Tryz.prog 60 #[.agg #[v], .string ⟨name.toArray⟩] w fun e w' => e = .returned (.tuple #[.string ⟨(f.s ++ f.t).toArray⟩, .int .i64 0]) ∧ Below w.heap.size w w' := by
  have C := fun W (hW : Below w.heap.size w W) => locate_there _ fs A B f name W (hv.next hW) hs g T
  obtain ⟨b, off, cap, rfl, hb, hr, hk, hlt⟩ := there_row hv T
  have hfl := fileOk_len (T.ok g)
  have HR := hide hr
  have HK := hide hk
  have hb0 : b ≠ w.heap.size := by omega
  have hlti : (A.length : Int) < (fs.length : Int) := by omega
  clear hv hs g T hr hk
  go_enter Tryz.func60, Tryz.ntmps60
  go_wp2_with fail
  refine (C _ ((Below.refl _ _).alloc (Nat.le_refl _) _)).mono ?_
  rintro e w1 ⟨rfl, hb1⟩
  have hbz := dbox_then hb1
  have c1 : w1.cell? ⟨w.heap.size, 0, none⟩ = some (.slice (some ⟨b, off, none⟩) fs.length cap) := by rw [hb1.cell (p := ⟨w.heap.size, 0, none⟩) (by simp)]; simp
  have r := (unhide HR).kept hbz hb
  have e0 := r.c0 (unhide HK)
  have e1 := r.c1 (unhide HK)
  have e2 := r.c2 (unhide HK)
  obtain ⟨fn, fss, ft⟩ := f
  simp only at *
  have k1 := fun W => dclone_any fss W (by omega)
  have k2 := fun W => dclone_any ft W (by omega)
  have hlen : ¬ 9223372036854775807 < fss.length + ft.length := by omega
  clear C hb1 r
  go_wp2_with fail
  have a1 : (w1.alloc (Obj.cells #[Value.string ⟨fn.toArray⟩, Value.string ⟨fss.toArray⟩, Value.string ⟨ft.toArray⟩] 87)).cell? ⟨w1.heap.size, 1, none⟩ = some (.string ⟨fss.toArray⟩) := by simp
  have a2 : (w1.alloc (Obj.cells #[Value.string ⟨fn.toArray⟩, Value.string ⟨fss.toArray⟩, Value.string ⟨ft.toArray⟩] 87)).cell? ⟨w1.heap.size, 2, none⟩ = some (.string ⟨ft.toArray⟩) := by simp
  have hbw := hbz.alloc hbz.size (Obj.cells #[Value.string ⟨fn.toArray⟩, Value.string ⟨fss.toArray⟩, Value.string ⟨ft.toArray⟩] 87)
  generalize w1.alloc (Obj.cells #[Value.string ⟨fn.toArray⟩, Value.string ⟨fss.toArray⟩, Value.string ⟨ft.toArray⟩] 87) = W at a1 a2 hbw ⊢
  have d1 : ∀ d os, (Sort.grow (redrawn W d) os).cell? ⟨w1.heap.size, 1, none⟩ = some (.string ⟨fss.toArray⟩) := fun d os => cell_regrown a1 d os
  have d2 : ∀ d os, (Sort.grow (redrawn W d) os).cell? ⟨w1.heap.size, 2, none⟩ = some (.string ⟨ft.toArray⟩) := fun d os => cell_regrown a2 d os
  have c1' := fun d os => Calls.regrown_of (w := W) (d := d) (os := os) (k1 _)
  have c2 := fun d os => Calls.regrown_of (w := W) (d := d) (os := os) (k2 _)
  clear k1 k2 a1 a2 e0 e1 e2 c1
  refine wp_region_quiet_below (by kernel_rfl) (by kernel_rfl) ?_
  repeat (first | go_big_quiet_step (first | with_reducible exact c1' _ _ | with_reducible exact c2 _ _) | quiet_step (first | with_reducible exact c1' _ _ | with_reducible exact c2 _ _))
  refine wpQuiet_nil ?_
  intro _ hw'
  obtain ⟨⟨dq, osq⟩, hw''⟩ := hw'
  subst hw''
  have hb2 := dbelow_next hbw (below_regrown W dq osq)
  clear c1' c2 d1 d2
  go_wp2_with fail
  go_ret2
  exact ⟨by rw [← dcat_one]; rfl, hb2⟩
end Go.Proofs.YtoacignhobchbaaGreatDoor

namespace Go.Proofs.YtoacignhobchbaaGreatDoor
open Go.RowKit

/-- two boxes that a call has laid first: its disk's and its result's -/
structure Boxes (w W : World) (v : Value) : Prop where
  below : Below w.heap.size w W
  size : w.heap.size + 2 ≤ W.heap.size
  cd : W.cell? ⟨w.heap.size, 0, none⟩ = some v
  cr : W.cell? ⟨w.heap.size + 1, 0, none⟩ = some (.slice none 0 0)
  fr : W.frozen? ⟨w.heap.size + 1, 0, none⟩ = false
theorem Boxes.next {w W V : World} {v : Value} (h : Boxes w W v) (hb : Below W.heap.size W V) : Boxes w V v :=
  ⟨dbelow_next h.below hb, Nat.le_trans h.size hb.size, by rw [hb.cell (p := ⟨w.heap.size, 0, none⟩) (by have := h.size; show w.heap.size < _; omega)]; exact h.cd,
    by rw [hb.cell (p := ⟨w.heap.size + 1, 0, none⟩) (by have := h.size; show w.heap.size + 1 < _; omega)]; exact h.cr, by rw [hb.frozen (p := ⟨w.heap.size + 1, 0, none⟩) (by have := h.size; show w.heap.size + 1 < _; omega)]; exact h.fr⟩
theorem Boxes.grown {w W V : World} {v : Value} {g : Nat} (h : Boxes w W v) (hg : W.grownBy V (some g)) (hl : w.heap.size + 2 ≤ g) : Boxes w V v := by
  have hs := h.size
  have b0 : V.heap[w.heap.size]? = W.heap[w.heap.size]? := hg.block _ (by omega) (fun e => by cases e; omega)
  have b1 : V.heap[w.heap.size + 1]? = W.heap[w.heap.size + 1]? := hg.block _ (by omega) (fun e => by cases e; omega)
  exact ⟨h.below.grown hg (by omega) (fun k e => by cases e; omega), Nat.le_trans h.size hg.size, (World.cell?_of_block b0).trans h.cd, (World.cell?_of_block b1).trans h.cr, (World.frozen?_of_block b1).trans h.fr⟩
theorem Boxes.start (w : World) (v : Value) (t t' : TypeId) : Boxes w ((w.alloc (.cells #[v] t)).alloc (.cells #[.slice none 0 0] t')) v :=
  ⟨((Below.refl _ _).alloc (Nat.le_refl _) _).alloc (by simp) _, by simp, by simp, by simp, by simp⟩
theorem Boxes.alloc {w W : World} {v : Value} (h : Boxes w W v) (o : Obj) : Boxes w (W.alloc o) v := h.next ((Below.refl _ _).alloc (Nat.le_refl _) o)
theorem below_drew {W V : World} (h : Below W.drew.heap.size W.drew V) : Below W.heap.size W V := ((Below.refl _ W).drew).trans h

theorem own_some {W : World} {B : Nat} {v : Value} {fs : List DF} (h : OwnV W B v fs) {k : Nat} (hk : k < fs.length) : ∃ g cap, v = .slice (some ⟨g, 0, none⟩) fs.length cap ∧ B ≤ g ∧ Own W g cap fs := by
  rcases h with ⟨rfl, rfl⟩ | h
  · simp at hk
  · exact h

set_option maxRecDepth 10000 in
set_option maxHeartbeats 1000000 in
theorem sync_there (v : Value) (fs A B : List DF) (f : DF) (name : List UInt8) (w : World) (hv : DiskV w v fs) (hs : Slim fs) (g : GoodD fs) (T : There fs A f B name) :
    Calls Tryz.prog 105 #[.agg #[v], .string ⟨name.toArray⟩] w fun e w' => ∃ v', e = .returned (.tuple #[.agg #[v'], .int .i64 0]) ∧ OwnV w' w.heap.size v' (A ++ ⟨f.n, f.s ++ f.t, []⟩ :: B) ∧ Below w.heap.size w w' := by
  have C := fun W (hW : Below w.heap.size w W) => locate_there _ fs A B f name W (hv.next hW) hs g T
  have CC := fun W (hW : Below w.heap.size w W) => copied_any _ fs W (hv.next hW) hs g.few
  obtain ⟨b, off, cap, rfl, hb, hr, hk, hlt⟩ := there_row hv T
  have hfl := fileOk_len (T.ok g)
  have HR := hide hr
  have HK := hide hk
  have HT := hide T.eq
  have hb0 : b ≠ w.heap.size := by omega
  have hlti : (A.length : Int) < (fs.length : Int) := by omega
  have CS := fun W => dsize_any f W (by omega)
  have CT := fun (g c : Nat) (W : World) (ho : Own W g c fs) => settle_any g c A.length fs f (f.s.length + f.t.length) W ho hk (by omega) hfl
  have hset : fs.set A.length ⟨f.n, (f.s ++ f.t).take (f.s.length + f.t.length), []⟩ = A ++ ⟨f.n, f.s ++ f.t, []⟩ :: B := by rw [T.eq]; simp [List.take_of_length_le]
  have hsl : fs.length = (A ++ ⟨f.n, f.s ++ f.t, []⟩ :: B).length := by rw [T.eq]; simp
  rw [hset] at CT
  obtain ⟨fs', hfs'⟩ : ∃ x, A ++ ⟨f.n, f.s ++ f.t, []⟩ :: B = x := ⟨_, rfl⟩
  rw [hfs'] at CT hsl ⊢
  have HSL := hide hsl
  obtain ⟨L, hL⟩ : ∃ L, f.s.length + f.t.length = L := ⟨_, rfl⟩
  rw [hL] at CS hfl CT
  clear hv hs g T hr hk hset hfs' hsl hL HT
  go_enter Tryz.func105, Tryz.ntmps105
  go_wp2_with fail
  have X := Boxes.start w (.slice (some ⟨b, off, none⟩) fs.length cap) 28 28
  generalize (w.alloc (.cells #[.slice (some ⟨b, off, none⟩) fs.length cap] 28)).alloc (.cells #[.slice none 0 0] 28) = w0 at *
  refine (C _ X.below).mono ?_
  rintro e w1 ⟨rfl, hb1⟩
  have X1 := X.next hb1
  have HX := hide X1
  have cd := X1.cd
  have r := (unhide HR).kept X1.below hb
  have e0 := r.c0 (unhide HK)
  have e1 := r.c1 (unhide HK)
  have e2 := r.c2 (unhide HK)
  clear C hb1 r X X1
  go_wp2_with fail
  refine (CC _ (unhide HX).below).mono ?_
  rintro e w2 ⟨v', rfl, ho, hb2⟩
  obtain ⟨g, cap2, rfl, hg, ho⟩ := own_some ho hlt
  have hgl := ho.lt
  have hg2 : w.heap.size + 2 ≤ g := by have := (unhide HX).size; omega
  have X2 := ((unhide HX).next hb2).alloc (.cells #[.slice (some ⟨g, 0, none⟩) fs.length cap2] 28)
  have ho2 := ho.alloc (.cells #[.slice (some ⟨g, 0, none⟩) fs.length cap2] 28)
  have ca : (w2.alloc (.cells #[.slice (some ⟨g, 0, none⟩) fs.length cap2] 28)).cell? ⟨w2.heap.size, 0, none⟩ = some (.slice (some ⟨g, 0, none⟩) fs.length cap2) := by simp
  have haz : w2.heap.size < (w2.alloc (.cells #[.slice (some ⟨g, 0, none⟩) fs.length cap2] 28)).heap.size := by simp
  clear CC hb2 ho HX cd e0 e1 e2
  go_wp2_with fail
  generalize w2.alloc (.cells #[.slice (some ⟨g, 0, none⟩) fs.length cap2] 28) = W at *
  have HX := hide X2
  have HO := hide ho2
  have cd := X2.cd
  have r := (unhide HR).kept X2.below hb
  have e0 := r.c0 (unhide HK)
  have e1 := r.c1 (unhide HK)
  have e2 := r.c2 (unhide HK)
  clear r X2 ho2
  go_region_with (first
    | (go_at_call 94; refine (CS _).mono ?_; rintro e w3 ⟨rfl, hb3⟩; have ca3 : w3.cell? ⟨w2.heap.size, 0, none⟩ = some (.slice (some ⟨g, 0, none⟩) fs.length cap2) := (hb3.cell (p := ⟨w2.heap.size, 0, none⟩) haz).trans ca)
    | (go_at_call 100; refine (CT g cap2 w3 ((unhide HO).next (below_drew hb3))).mono ?_; rintro e w4 ⟨rfl, ho4, hg4⟩))
  all_goals
    have X4 := ((unhide HX).next (below_drew hb3)).grown hg4 hg2
    have ca4 : w4.cell? ⟨w2.heap.size, 0, none⟩ = some (.slice (some ⟨g, 0, none⟩) fs.length cap2) := hg4.cell ca3 (fun e => by have e3 : w2.heap.size = g := Option.some.inj e; omega)
    have cr := X4.cr
    have fr := X4.fr
    have HB := hide X4.below
    have HO4 := hide ho4
    clear X4 ho4 hg4
    clear CS CT
    go_wp2_with fail
    refine bodyPost_ret (v := .tuple #[.agg #[.slice (some ⟨g, 0, none⟩) fs.length cap2], .int .i64 0]) (by simp [results, Tryz.results105, go_sem, cr]) rfl ⟨_, rfl, .inr ⟨g, cap2, by rw [unhide HSL], by omega, (unhide HO4).other (by show g ≠ w.heap.size + 1; omega) _⟩, (unhide HB).setCell (by simp) _⟩

end Go.Proofs.YtoacignhobchbaaGreatDoor

namespace Go.Proofs.YtoacignhobchbaaGreatDoor
open Go.RowKit
theorem Own.some {W : World} {g cap : Nat} {fs : List DF} (h : Own W g cap fs) {j : Nat} (hj : j < cap * 3) : (W.cell? ⟨g, j, none⟩).isSome = true := by
  obtain ⟨rest, h1, h2, _⟩ := h
  have hl : j < (cellsF fs ++ rest).length := by rw [List.length_append, cellsF_length, h2]; exact hj
  rw [List.length_append] at hl
  simp [World.cell?, h1, hl]

end Go.Proofs.YtoacignhobchbaaGreatDoor
