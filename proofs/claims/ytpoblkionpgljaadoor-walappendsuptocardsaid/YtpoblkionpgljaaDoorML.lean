/-
  What aviaryref.GoodDisk and file answer: the walks.
  What aviaryref.Read, CopyDisk and SameDisk answer: the walks.
  What aviaryref.Crash and aviarylaw.here answer: the walks.
  What disk.Cut says of a number out of its bounds; what Sync, Cut and Remove come to, each as one of two ways.
  Two calls that answer alike; what aviarylaw.here answers.
  What aviaryref.turn, Sync and Cut answer: the walks.
-/
import Derived.Test.YtpoblkionpgljaaDoorME
import Derived.Test.YtpoblkionpgljaaDoorMI
import Derived.Laws.StructEq
namespace Go.Proofs.YtpoblkionpgljaaDoor
open Go.RowKit

set_option maxHeartbeats 2000000 in
theorem rgood_some (b off cap : Nat) (fs : List DF) (w : World) (hs : Slim fs) (hl : fs.length ≤ 140737488355328) (hb : b < w.heap.size) (h : RowAt w b off (cellsF fs)) :
    Calls Tryd.prog 76 #[.agg #[.slice (some ⟨b, off, none⟩) fs.length cap]] w fun e w' => e = .returned (.bool (goodD fs)) ∧ Below w.heap.size w w' := by
  have H := hide h
  have HS := hide hs
  have NO := hide (fun (k : Nat) (f : DF) => @bad_file fs k f)
  have NR := hide (fun (k : Nat) (f g : DF) => @bad_order fs k f g)
  have YES := hide (fun h => @good_of_okTo fs h)
  have LONG := hide (@bad_len fs)
  have Z := hide (okTo_zero fs)
  have SU := hide (fun (k : Nat) (f : DF) (h : OkTo fs k) => okTo_succ (f := f) h)
  have hb0 : b ≠ w.heap.size := by omega
  clear h hs
  generalize goodD fs = G at NO NR YES LONG ⊢
  go_enter Tryd.func76, Tryd.ntmps76
  go_wp2_with fail
  go_loopg [8] fs.length (fun kx s12 wr => ∃ k : Nat, s12 = .int .i64 k ∧ k ≤ fs.length ∧ fs.length - k ≤ kx ∧ Hid (Below w.heap.size w wr ∧ w.heap.size < wr.heap.size ∧ wr.cell? ⟨w.heap.size, 0, none⟩ = some (.slice (some ⟨b, off, none⟩) fs.length cap)) ∧ Hid (OkTo fs k))
  case atStart => exact ⟨0, rfl, Nat.zero_le _, by omega, hide ⟨(Below.refl _ _).alloc (Nat.le_refl _) _, by simp, by simp⟩, Z⟩
  case round =>
    obtain ⟨k, rfl, hk, hg, hB, hO⟩ := hrel
    by_cases hlt : k < fs.length
    · obtain ⟨f, hf⟩ : ∃ f, fs[k]? = some f := ⟨_, List.getElem?_eq_getElem hlt⟩
      have HF := hide hf
      have r := (unhide H).kept (unhide hB).1 hb
      have e0 := r.c0 hf
      have e1 := r.c1 hf
      have e2 := r.c2 hf
      have hsl := unhide HS f (List.mem_of_getElem? hf)
      have hbw : b < wr.heap.size := Nat.lt_of_lt_of_le hb (unhide hB).1.size
      have h00 := (unhide hB).2.2
      clear hf r
      obtain ⟨W1, hW1⟩ : ∃ W1, W1 = wr.alloc (.cells #[.string ⟨f.n.toArray⟩, .string ⟨f.s.toArray⟩, .string ⟨f.t.toArray⟩] 62) := ⟨_, rfl⟩
      have hBa : Below wr.heap.size wr W1 := by rw [hW1]; exact (Below.refl _ _).alloc (Nat.le_refl _) _
      have hBw : Below w.heap.size w W1 := dbelow_next (unhide hB).1 hBa
      have hz1 : w.heap.size < W1.heap.size := Nat.lt_of_lt_of_le (unhide hB).2.1 hBa.size
      have h01 : W1.cell? ⟨w.heap.size, 0, none⟩ = some (.slice (some ⟨b, off, none⟩) fs.length cap) := by rw [hBa.cell (p := ⟨w.heap.size, 0, none⟩) (unhide hB).2.1]; exact h00
      have b0 : W1.cell? ⟨wr.heap.size, 0, none⟩ = some (.string ⟨f.n.toArray⟩) := by rw [hW1]; simp
      have b1 : W1.cell? ⟨wr.heap.size, 1, none⟩ = some (.string ⟨f.s.toArray⟩) := by rw [hW1]; simp
      have b2 : W1.cell? ⟨wr.heap.size, 2, none⟩ = some (.string ⟨f.t.toArray⟩) := by rw [hW1]; simp
      have hzb : wr.heap.size < W1.heap.size := by rw [hW1]; simp
      have HF1 : Hid (Below w.heap.size w W1 ∧ w.heap.size < W1.heap.size ∧ wr.heap.size < W1.heap.size) := ⟨hBw, hz1, hzb⟩
      have CN := fun W => refNamed_any f.n W hsl.1
      have HL := hide hsl
      have hsum : ¬ 9223372036854775807 < f.s.length + f.t.length := by omega
      have hW1' := hide hW1
      have HE := hide (And.intro h01 (And.intro b0 (And.intro b1 b2)))
      clear hBa hBw hz1 hzb h00 hsl
      go_wp2_with fail
      rw [← hW1]
      clear hW1 e0 e1 e2
      refine (CN _).mono ?_
      rintro e w1 ⟨rfl, hb1⟩
      have hB1 := dbelow_next (unhide HF1).1 hb1
      have hlt1 : w.heap.size < w1.heap.size := Nat.lt_of_lt_of_le (unhide HF1).2.1 hb1.size
      have g0 : w1.cell? ⟨w.heap.size, 0, none⟩ = some (.slice (some ⟨b, off, none⟩) fs.length cap) := (hb1.cell (p := ⟨w.heap.size, 0, none⟩) (unhide HF1).2.1).trans (unhide HE).1
      have g1 : w1.cell? ⟨wr.heap.size, 0, none⟩ = some (.string ⟨f.n.toArray⟩) := (hb1.cell (p := ⟨wr.heap.size, 0, none⟩) (unhide HF1).2.2).trans (unhide HE).2.1
      have g2 : w1.cell? ⟨wr.heap.size, 1, none⟩ = some (.string ⟨f.s.toArray⟩) := (hb1.cell (p := ⟨wr.heap.size, 1, none⟩) (unhide HF1).2.2).trans (unhide HE).2.2.1
      have g3 : w1.cell? ⟨wr.heap.size, 2, none⟩ = some (.string ⟨f.t.toArray⟩) := (hb1.cell (p := ⟨wr.heap.size, 2, none⟩) (unhide HF1).2.2).trans (unhide HE).2.2.2
      have HB1 := hide hB1
      clear CN hb1 hB1 h01 b0 b1 b2 HE HF1 hW1'
      cases hn : namedB f.n with
      | false =>
        have HN := hide hn
        clear hn
        go_wp2_with fail
        go_ret
        exact ⟨ret_bool (unhide NO k f (unhide HF) (fileOk_short (unhide HN))).symm, unhide HB1⟩
      | true =>
        have HN := hide hn
        clear hn
        by_cases hbig : f.s.length + f.t.length ≤ 1048576
        · have hok := fileOk_yes (unhide HN) hbig
          have hbi : ¬ ((1048576 : Int) < (f.s.length : Int) + (f.t.length : Int)) := by omega
          rcases Nat.eq_zero_or_pos k with hk0 | hk0
          · subst hk0
            have OK2 := hide (unhide SU 0 f (unhide hO) (unhide HF) hok (fun g h => absurd h (Nat.lt_irrefl 0)))
            go_wp2_with fail
            go_region
            go_wp2_with fail
            go_roundg (fs.length - 1)
            case measure => omega
            case rel => exact ⟨1, rfl, by omega, Nat.le_refl _, hide ⟨(unhide HB1).drew, hlt1, g0⟩, OK2⟩
          · obtain ⟨m, rfl⟩ : ∃ m, k = m + 1 := ⟨k - 1, by omega⟩
            obtain ⟨g, hg⟩ : ∃ g, fs[m]? = some g := ⟨_, List.getElem?_eq_getElem (by omega)⟩
            have r := (unhide H).kept (unhide HB1) hb
            have e0 := r.c0 hg
            have HG := hide hg
            clear r hg
            have hm1 : (m : Int) < (fs.length : Int) := by omega
            cases hbl : bl g.n f.n with
            | true =>
              have OK2 := hide (unhide SU (m + 1) f (unhide hO) (unhide HF) hok (fun g' _ h => by
                rw [Nat.add_sub_cancel, unhide HG] at h
                cases h
                exact hbl))
              have hbl' : Op.bytesLess g.n f.n = true := hbl
              clear hbl
              go_wp2_with fail
              go_region
              go_wp2_with fail
              go_roundg (fs.length - (m + 1 + 1))
              case measure => omega
              case rel => exact ⟨m + 1 + 1, rfl, by omega, Nat.le_refl _, hide ⟨(unhide HB1).drew, hlt1, g0⟩, OK2⟩
            | false =>
              have hbl' : Op.bytesLess g.n f.n = false := hbl
              have HGF := hide (unhide NR (m + 1) f g (unhide HF) (by simpa using unhide HG) (by omega) hbl).symm
              clear hbl
              go_wp2_with fail
              go_region
              go_wp2_with fail
              go_ret
              exact ⟨ret_bool (unhide HGF), (unhide HB1).drew⟩
        · have hbi : (1048576 : Int) < (f.s.length : Int) + (f.t.length : Int) := by omega
          go_wp2_with fail
          go_ret
          exact ⟨ret_bool (unhide NO k f (unhide HF) (fileOk_long (by omega))).symm, unhide HB1⟩
    · have hkk : k = fs.length := by omega
      subst hkk
      have h00 := (unhide hB).2.2
      by_cases h16 : fs.length ≤ 16
      · have h16i : (fs.length : Int) ≤ 16 := by omega
        go_wp2_with fail
        go_ret
        exact ⟨ret_bool (by rw [unhide YES h16 (unhide hO)]), (unhide hB).1⟩
      · have h16i : ¬ ((fs.length : Int) ≤ 16) := by omega
        go_wp2_with fail
        go_ret
        exact ⟨ret_bool (by rw [unhide LONG (by omega)]), (unhide hB).1⟩

set_option maxHeartbeats 1000000 in
theorem rgood_none (a : Option Addr) (cap : Nat) (w : World) :
    Calls Tryd.prog 76 #[.agg #[.slice a 0 cap]] w fun e w' => e = .returned (.bool true) ∧ Below w.heap.size w w' := by
  go_enter Tryd.func76, Tryd.ntmps76
  go_wp2_with fail
  go_loopg [8] 1 (fun _ s wr => s = .int .i64 0 ∧ wr = w.alloc (.cells #[.slice a 0 cap] 35))
  case atStart => exact ⟨rfl, rfl⟩
  case round =>
    obtain ⟨rfl, rfl⟩ := hrel
    go_wp2_with fail
    go_ret
    exact ⟨rfl, (Below.refl _ _).alloc (Nat.le_refl _) _⟩
theorem rdgood_any (v : Value) (fs : List DF) (w : World) (hv : DiskV w v fs) (hs : Slim fs) (hl : fs.length ≤ 140737488355328) :
    Calls Tryd.prog 76 #[.agg #[v]] w fun e w' => e = .returned (.bool (goodD fs)) ∧ Below w.heap.size w w' := by
  rcases hv with ⟨a, cap, rfl, rfl, _⟩ | ⟨b, off, cap, rfl, _, _, hb, _, hr⟩
  · rw [goodD_nil]; exact rgood_none a cap w
  · exact rgood_some b off cap fs w hs hl hb hr

/- aviaryref.file -/
/-- where the first file of this name stands -/
def posI (A R : List DF) : Int := match R with
  | [] => -1
  | _ :: _ => (A.length : Int)
set_option maxHeartbeats 1000000 in
theorem rfile_split (v : Value) (fs A R : List DF) (name : List UInt8) (w : World) (hv : DiskV w v fs) (hl : fs.length ≤ 16) (he : fs = A ++ R) (lo : ∀ a ∈ A, a.n ≠ name) (hi : ∀ f B, R = f :: B → f.n = name) :
    Calls Tryd.prog 48 #[.agg #[v], .string ⟨name.toArray⟩] w fun e w' => e = .returned (.int .i64 (posI A R)) ∧ Below w.heap.size w w' := by
  obtain ⟨a, c, rfl, hrow⟩ : ∃ a c, v = .slice a fs.length c ∧ (0 < fs.length → ∃ b off, a = some ⟨b, off, none⟩ ∧ b < w.heap.size ∧ RowAt w b off (cellsF fs)) := by
    rcases hv with ⟨a, cap, rfl, rfl, _⟩ | ⟨b, off, cap, rfl, _, _, hb, _, hr⟩
    · exact ⟨a, cap, rfl, fun h => by simp at h⟩
    · exact ⟨_, cap, rfl, fun _ => ⟨b, off, rfl, hb, hr⟩⟩
  have HR := hide hrow
  have HE := hide he
  have LO := hide lo
  have HI := hide hi
  have hal : A.length ≤ fs.length := by rw [he]; simp
  clear hv hrow he lo hi
  go_enter Tryd.func48, Tryd.ntmps48
  go_wp2_with fail
  go_loopg [10] fs.length (fun kx s wr => ∃ k : Nat, s = .int .i64 k ∧ k ≤ A.length ∧ fs.length - k ≤ kx ∧ Hid (Below w.heap.size w wr))
  case atStart => exact ⟨0, rfl, Nat.zero_le _, by omega, hide ((Below.refl _ _).alloc (Nat.le_refl _) _)⟩
  case round =>
    obtain ⟨k, rfl, hk, hkx, hB⟩ := hrel
    by_cases hlt : k < fs.length
    · obtain ⟨b, off, rfl, hb, hr⟩ := unhide HR (by omega)
      obtain ⟨f, hf⟩ : ∃ f, fs[k]? = some f := ⟨_, List.getElem?_eq_getElem hlt⟩
      have r := hr.kept (unhide hB) hb
      have e0 := r.c0 hf
      have e1 := r.c1 hf
      have e2 := r.c2 hf
      have hbw : b < wr.heap.size := Nat.lt_of_lt_of_le hb (unhide hB).size
      have hlti : (k : Int) < (fs.length : Int) := by omega
      have hal2 := (unhide hB).alloc (unhide hB).size (.cells #[.string ⟨f.n.toArray⟩, .string ⟨f.s.toArray⟩, .string ⟨f.t.toArray⟩] 62)
      have HAL := hide hal2
      have HF := hide hf
      clear r hr hf hal2
      by_cases hka : k < A.length
      · have hn : (f.n == name) = false := by
          have hf := unhide HF
          rw [unhide HE, List.getElem?_append_left hka] at hf
          simpa using unhide LO f (List.mem_of_getElem? hf)
        go_wp2_with fail
        go_roundg (fs.length - (k + 1))
        case measure => omega
        case rel => exact ⟨k + 1, rfl, by omega, Nat.le_refl _, HAL⟩
      · obtain rfl : k = A.length := by omega
        have hR : ∃ B, R = f :: B := by
          have hf := unhide HF
          rw [unhide HE, List.getElem?_append_right (Nat.le_refl _), Nat.sub_self] at hf
          cases R with
          | nil => simp at hf
          | cons x B => simp at hf; exact ⟨B, by rw [hf]⟩
        obtain ⟨B, rfl⟩ := hR
        have hn : f.n = name := unhide HI f B rfl
        rw [hn] at e0 HAL
        clear hn
        go_wp2_with fail
        go_ret
        exact ⟨rfl, unhide HAL⟩
    · have hki : ¬ ((k : Int) < (fs.length : Int)) := by omega
      have hR : R = [] := by
        have : fs.length = A.length + R.length := by rw [unhide HE]; simp
        exact List.eq_nil_of_length_eq_zero (by omega)
      subst hR
      go_wp2_with fail
      go_ret
      exact ⟨rfl, unhide hB⟩
theorem rfile_there (v : Value) (fs A B : List DF) (f : DF) (name : List UInt8) (w : World) (hv : DiskV w v fs) (hl : fs.length ≤ 16) (T : There fs A f B name) :
    Calls Tryd.prog 48 #[.agg #[v], .string ⟨name.toArray⟩] w fun e w' => e = .returned (.int .i64 (A.length : Int)) ∧ Below w.heap.size w w' :=
  rfile_split v fs A (f :: B) name w hv hl T.eq (fun a ha => bl_ne (T.lo a ha)) (fun f' B' h => by cases h; exact T.nm)
theorem rfile_gap (v : Value) (fs A B : List DF) (name : List UInt8) (w : World) (hv : DiskV w v fs) (hl : fs.length ≤ 16) (G : Gap fs A B name) :
    Calls Tryd.prog 48 #[.agg #[v], .string ⟨name.toArray⟩] w fun e w' => e = .returned (.int .i64 (-1)) ∧ Below w.heap.size w w' :=
  rfile_split v fs fs [] name w hv hl (by simp) (fun a ha => by
    rw [G.eq] at ha
    rcases List.mem_append.1 ha with h | h
    · exact bl_ne (G.lo a h)
    · exact (bl_ne (G.hi a h)).symm) (fun f' B' h => by cases h)
end Go.Proofs.YtpoblkionpgljaaDoor

namespace Go.Proofs.YtpoblkionpgljaaDoor
open Go.RowKit

theorem disk_len {w : World} {v : Value} {fs : List DF} (hv : DiskV w v fs) : (∃ a c, v = .slice a 0 c ∧ fs = []) ∨ ∃ b off c, v = .slice (some ⟨b, off, none⟩) fs.length c ∧ b < w.heap.size ∧ RowAt w b off (cellsF fs) ∧ fs ≠ [] := by
  rcases hv with ⟨a, cap, rfl, rfl, _⟩ | ⟨b, off, cap, rfl, _, _, hb, h0, hr⟩
  · exact .inl ⟨a, cap, rfl, rfl⟩
  · exact .inr ⟨b, off, cap, rfl, hb, hr, h0⟩

set_option maxHeartbeats 1000000 in
theorem rcopy_some (a : Addr) (cap : Nat) (fs : List DF) (w : World) (hl : fs.length * 48 ≤ 140737488355328) (hc : ∀ j u, (cellsF fs)[j]? = some u → w.cell? (a.add j) = some u) :
    Calls Tryd.prog 15 #[.agg #[.slice (some a) fs.length cap]] w fun e w' => ∃ v', e = .returned (.agg #[v']) ∧ OwnV w' w.heap.size v' fs ∧ Below w.heap.size w w' := by
  obtain ⟨i0, hi0, hz0, hz1, hz2⟩ := info_file
  have HR := hide hc
  clear hc
  go_enter Tryd.func15, Tryd.ntmps15
  go_wp2_with (at_builtin; refine wpList_append_own _ rfl _ _ 33 rfl (w.heap.size + 2) 62 i0 _ 3 48 Tryd.underlying33 hi0 hz0 hz1 hz2 rfl (by decide) _ 0 [] rfl (World.ownsRow_nil _ _ _ _) a fs.length cap (cellsF fs) rfl (cellsF_length fs) ?qc2 (cellsF_one fs) ?qc4 ?qc5 ?qc6 ?_)
  case qc2 =>
    intro j u hj
    exact Lib.cell?_alloc_some _ (Lib.cell?_alloc_some _ (unhide HR j u hj))
  case qc4 => simp only [maxLen]; omega
  case qc5 => omega
  case qc6 => simp
  intro v' w1 hown hgrow _
  have X := (Boxes.start w (.slice (some a) fs.length cap) 35 35).grownO hgrow (fun k e => by cases e)
  have ho := OwnV.of_row (B := w.heap.size + 2) (by simpa using hown)
  have cr := X.cr
  have fr := X.fr
  have HB := hide X.below
  have HO := hide ho
  obtain ⟨a5, c5, rfl, _⟩ := own_slice ho
  clear X ho hown hgrow
  go_wp2
  refine bodyPost_ret (v := .agg #[.slice a5 fs.length c5]) (by simp [results, Tryd.results15, go_sem, cr]) rfl ⟨_, rfl, ?_, (unhide HB).setCell (by simp) _⟩
  rcases unhide HO with h | ⟨g, c, e, h1, h2⟩
  · exact .inl h
  · exact .inr ⟨g, c, e, by omega, h2.other (by show g ≠ w.heap.size + 1; omega) _⟩

set_option maxHeartbeats 400000 in
theorem rcopy_nil (cap : Nat) (w : World) :
    Calls Tryd.prog 15 #[.agg #[.slice none 0 cap]] w fun e w' => ∃ v', e = .returned (.agg #[v']) ∧ OwnV w' w.heap.size v' [] ∧ Below w.heap.size w w' := by
  have X := Boxes.start w (.slice none 0 cap) 35 35
  have cr := X.cr
  have HB := hide X.below
  clear X
  go_enter Tryd.func15, Tryd.ntmps15
  go_wp2_with fail
  exact bodyPost_ret (v := .agg #[.slice none 0 0]) (by simp [results, Tryd.results15, go_sem]) rfl ⟨_, rfl, .inl ⟨rfl, rfl⟩, unhide HB⟩

theorem rcopy_any (v : Value) (fs : List DF) (w : World) (hv : DiskV w v fs) (hl : fs.length * 48 ≤ 140737488355328) :
    Calls Tryd.prog 15 #[.agg #[v]] w fun e w' => ∃ v', e = .returned (.agg #[v']) ∧ OwnV w' w.heap.size v' fs ∧ Below w.heap.size w w' := by
  rcases hv with ⟨a, cap, rfl, rfl, _⟩ | ⟨b, off, cap, rfl, _, _, hb, _, hr⟩
  · cases a with
    | none => exact rcopy_nil cap w
    | some a => exact rcopy_some a cap [] w (by simp) (fun j u h => by simp [cellsF] at h)
  · exact rcopy_some ⟨b, off, none⟩ cap fs w hl (fun j u h => by rw [Addr.add_lit]; exact hr j u h)

set_option maxHeartbeats 400000 in
theorem rsame_none (a a' : Option Addr) (c c' : Nat) (w : World) :
    Calls Tryd.prog 17 #[.agg #[.slice a 0 c], .agg #[.slice a' 0 c']] w fun e w' => e = .returned (.bool true) ∧ Below w.heap.size w w' := by
  go_enter Tryd.func17, Tryd.ntmps17
  go_wp2_with fail
  go_loopg [16] 1 (fun _ s wr => s = .int .i64 0 ∧ wr = (w.alloc (.cells #[.slice a 0 c] 35)).alloc (.cells #[.slice a' 0 c'] 35))
  case atStart => exact ⟨rfl, rfl⟩
  case round =>
    obtain ⟨rfl, rfl⟩ := hrel
    go_wp2_with fail
    go_ret
    exact ⟨rfl, ((Below.refl _ _).alloc (Nat.le_refl _) _).alloc (by simp) _⟩

set_option maxHeartbeats 1000000 in
theorem rsame_some (b off c b' off' c' : Nat) (fs : List DF) (w : World) (hl : fs.length ≤ 1000000) (hb : b < w.heap.size) (hb' : b' < w.heap.size) (hr : RowAt w b off (cellsF fs)) (hr' : RowAt w b' off' (cellsF fs)) :
    Calls Tryd.prog 17 #[.agg #[.slice (some ⟨b, off, none⟩) fs.length c], .agg #[.slice (some ⟨b', off', none⟩) fs.length c']] w fun e w' => e = .returned (.bool true) ∧ Below w.heap.size w w' := by
  have HR := hide hr
  have HR' := hide hr'
  have hb1 : b ≠ w.heap.size := by omega
  have hb2 : b' ≠ w.heap.size := by omega
  clear hr hr'
  go_enter Tryd.func17, Tryd.ntmps17
  go_wp2_with fail
  obtain ⟨W0, hW0⟩ : ∃ W, W = (w.alloc (.cells #[.slice (some ⟨b, off, none⟩) fs.length c] 35)).alloc (.cells #[.slice (some ⟨b', off', none⟩) fs.length c'] 35) := ⟨_, rfl⟩
  have ca : W0.cell? ⟨w.heap.size, 0, none⟩ = some (.slice (some ⟨b, off, none⟩) fs.length c) := by rw [hW0]; simp
  have cb : W0.cell? ⟨w.heap.size + 1, 0, none⟩ = some (.slice (some ⟨b', off', none⟩) fs.length c') := by rw [hW0]; simp
  have hB0 : Below w.heap.size w W0 := by rw [hW0]; exact ((Below.refl _ _).alloc (Nat.le_refl _) _).alloc (by simp) _
  rw [← hW0]
  have HB := hide hB0
  clear hW0 hB0
  go_loopg [16] fs.length (fun kx s wr => ∃ (k : Nat) (q : Nat), s = .int .i64 k ∧ k ≤ fs.length ∧ fs.length - k ≤ kx ∧ wr = W0.drewN q)
  case atStart => exact ⟨0, 0, rfl, Nat.zero_le _, by omega, rfl⟩
  case round =>
    obtain ⟨k, q, rfl, hk, hkx, rfl⟩ := hrel
    by_cases hlt : k < fs.length
    · obtain ⟨f, hf⟩ : ∃ f, fs[k]? = some f := ⟨_, List.getElem?_eq_getElem hlt⟩
      have r := (unhide HR).kept (unhide HB) hb
      have e0 := r.c0 hf
      have e1 := r.c1 hf
      have e2 := r.c2 hf
      have r' := (unhide HR').kept (unhide HB) hb'
      have e0' := r'.c0 hf
      have e1' := r'.c1 hf
      have e2' := r'.c2 hf
      have hlti : (k : Int) < (fs.length : Int) := by omega
      clear r r' hf
      go_wp2_with fail
      go_region
      go_wp2_with fail
      go_roundg (fs.length - (k + 1))
      case measure => omega
      case rel => exact ⟨k + 1, q + 1, rfl, by omega, Nat.le_refl _, rfl⟩
    · have hki : ¬ ((k : Int) < (fs.length : Int)) := by omega
      go_wp2_with fail
      go_ret
      exact ⟨rfl, (unhide HB).trans ⟨rfl, rfl, rfl, Nat.le_refl _, fun _ _ => rfl⟩⟩

theorem rsame_any (v v' : Value) (fs : List DF) (w : World) (hl : fs.length ≤ 1000000) (hv : DiskV w v fs) (hv' : DiskV w v' fs) :
    Calls Tryd.prog 17 #[.agg #[v], .agg #[v']] w fun e w' => e = .returned (.bool true) ∧ Below w.heap.size w w' := by
  rcases disk_len hv with ⟨a, c, rfl, h0⟩ | ⟨b, off, c, rfl, hb, hr, h0⟩
  · rcases disk_len hv' with ⟨a', c', rfl, _⟩ | ⟨b', off', c', rfl, hb', hr', h0'⟩
    · exact rsame_none a a' c c' w
    · exact absurd h0 h0'
  · rcases disk_len hv' with ⟨a', c', rfl, h0'⟩ | ⟨b', off', c', rfl, hb', hr', h0'⟩
    · exact absurd h0' h0
    · exact rsame_some b off c b' off' c' fs w hl hb hb' hr hr'

set_option maxHeartbeats 1000000 in
theorem rread_there (v : Value) (fs A B : List DF) (f : DF) (name : List UInt8) (w : World) (hv : DiskV w v fs) (hs : Slim fs) (g : GoodD fs) (T : There fs A f B name) :
    Calls Tryd.prog 45 #[.agg #[v], .string ⟨name.toArray⟩] w fun e w' => e = .returned (.tuple #[.string ⟨(f.s ++ f.t).toArray⟩, .int .i64 0]) ∧ Below w.heap.size w w' := by
  have CG := fun W (hW : Below w.heap.size w W) => rdgood_any v fs W (hv.next hW) hs (by have := g.few; omega)
  have CF := fun W (hW : Below w.heap.size w W) => rfile_there v fs A B f name W (hv.next hW) g.few T
  rw [goodD_true.2 g] at CG
  obtain ⟨b, off, cap, rfl, hb, hr, hk, hlt⟩ := there_row hv T
  have hfl := fileOk_len (T.ok g)
  have HR := hide hr
  have HK := hide hk
  have hlti : (A.length : Int) < (fs.length : Int) := by omega
  have hA0 : ¬ ((A.length : Int) < 0) := by omega
  clear hv hs g T hr hk
  go_enter Tryd.func45, Tryd.ntmps45
  go_wp2_with fail
  refine (CG _ ((Below.refl _ _).alloc (Nat.le_refl _) _)).mono ?_
  rintro e w1 ⟨rfl, hb1⟩
  have hB1 := dbox_then hb1
  have X1 := hide ((BoxAt.new w (.slice (some ⟨b, off, none⟩) fs.length cap)).next hb1)
  have c1 := (unhide X1).c
  clear CG hb1
  go_wp2_with fail
  refine (CF _ hB1).mono ?_
  rintro e w2 ⟨rfl, hb2⟩
  have hB2 := dbelow_next hB1 hb2
  have c2 := ((unhide X1).next hb2).c
  have r := (unhide HR).kept hB2 hb
  have e1 := r.c1 (unhide HK)
  have e2 := r.c2 (unhide HK)
  have hcat : ¬ 9223372036854775807 < f.s.length + f.t.length := by omega
  clear CF hb2 hB1 c1 X1 r
  go_wp2_with fail
  go_quiet (fail)
  go_wp2_with fail
  go_ret2
  exact ⟨by rw [← dcat_one]; rfl, hB2.trans ⟨rfl, rfl, rfl, Nat.le_refl _, fun _ _ => rfl⟩⟩

set_option maxHeartbeats 1000000 in
theorem rread_no (v : Value) (fs : List DF) (name : List UInt8) (E : Int) (w : World) (hv : DiskV w v fs) (hs : Slim fs) (hl : fs.length ≤ 140737488355328) (h : LocNo fs name E) :
    Calls Tryd.prog 45 #[.agg #[v], .string ⟨name.toArray⟩] w fun e w' => e = .returned (.tuple #[.string ⟨#[]⟩, .int .i64 E]) ∧ Below w.heap.size w w' := by
  have CG := fun W (hW : Below w.heap.size w W) => rdgood_any v fs W (hv.next hW) hs hl
  rcases h with ⟨hg, rfl⟩ | ⟨g, ⟨A, B, G⟩, rfl⟩
  · obtain ⟨a, n, c, rfl⟩ := disk_slice hv
    rw [hg] at CG
    clear hv hs hg
    go_enter Tryd.func45, Tryd.ntmps45
    go_wp2_with fail
    refine (CG _ ((Below.refl _ _).alloc (Nat.le_refl _) _)).mono ?_
    rintro e w1 ⟨rfl, hb1⟩
    have hB1 := dbox_then hb1
    clear CG hb1
    go_wp2_with fail
    go_ret2
    exact ⟨rfl, hB1⟩
  · have CF := fun W (hW : Below w.heap.size w W) => rfile_gap v fs A B name W (hv.next hW) g.few G
    obtain ⟨a, n, c, rfl⟩ := disk_slice hv
    rw [goodD_true.2 g] at CG
    clear hv hs g G
    go_enter Tryd.func45, Tryd.ntmps45
    go_wp2_with fail
    refine (CG _ ((Below.refl _ _).alloc (Nat.le_refl _) _)).mono ?_
    rintro e w1 ⟨rfl, hb1⟩
    have hB1 := dbox_then hb1
    have X1 := hide ((BoxAt.new w (.slice a n c)).next hb1)
    have c1 := (unhide X1).c
    clear CG hb1
    go_wp2_with fail
    refine (CF _ hB1).mono ?_
    rintro e w2 ⟨rfl, hb2⟩
    have hB2 := dbelow_next hB1 hb2
    clear CF hb2 hB1 c1 X1
    go_wp2_with fail
    go_ret2
    exact ⟨rfl, hB2⟩
theorem rread_any (v : Value) (fs : List DF) (name : List UInt8) (w : World) (hv : DiskV w v fs) (hs : Slim fs) (hl : fs.length ≤ 140737488355328) :
    Calls Tryd.prog 45 #[.agg #[v], .string ⟨name.toArray⟩] w fun e w' => e = .returned (.tuple #[.string ⟨(readD fs name).1.toArray⟩, .int .i64 (readD fs name).2]) ∧ Below w.heap.size w w' := by
  rcases loc_cases fs name with ⟨E, h⟩ | ⟨g, A, f, B, T⟩
  · have h' := rread_no v fs name E w hv hs hl h
    rcases h with ⟨h, rfl⟩ | ⟨g, ⟨A, B, G⟩, rfl⟩
    · rw [readD_bad h]; exact h'
    · rw [readD_gap g G]; exact h'
  · rw [readD_there g T]; exact rread_there v fs A B f name w hv hs g T
end Go.Proofs.YtpoblkionpgljaaDoor

namespace Go.Proofs.YtpoblkionpgljaaDoor
open Go.RowKit
theorem map_take_succ {α β : Type} (g : α → β) {l : List α} {k : Nat} {x : α} (h : l[k]? = some x) : (l.take (k + 1)).map g = (l.take k).map g ++ [g x] := by
  obtain ⟨hk, rfl⟩ := List.getElem?_eq_some_iff.1 h
  rw [List.take_succ_eq_append_getElem hk, List.map_append]
  rfl

theorem one_new (W : World) (x : DF) (b : Nat) (h : b = W.heap.size) : One (W.alloc (.cells (fcells x).toArray 62)) b x := by subst h; exact heap_alloc_new W _
theorem ownv_other {W : World} {B k : Nat} {v u : Value} {fs : List DF} (h : OwnV W B v fs) (hb : BoxAt W k u) (u' : Value) : OwnV (W.setCell ⟨k, 0, none⟩ u') B v fs := by
  rcases h with h | ⟨g, c, e, h1, h2⟩
  · exact .inl h
  · exact .inr ⟨g, c, e, h1, h2.other (hb.ne h2) _⟩

end Go.Proofs.YtpoblkionpgljaaDoor

namespace Go.Proofs.YtpoblkionpgljaaDoor
open Go.RowKit

set_option maxHeartbeats 1000000 in
theorem cut_out (v : Value) (fs A B : List DF) (f : DF) (name : List UInt8) (n : Int) (w : World) (hv : DiskV w v fs) (hs : Slim fs) (g : GoodD fs) (T : There fs A f B name) (hn : n < 0 ∨ ((f.s.length + f.t.length : Nat) : Int) < n) :
    Calls Tryd.prog 44 #[.agg #[v], .string ⟨name.toArray⟩, .int .i64 n] w fun e w' => e = .returned (.tuple #[.agg #[.slice none 0 0], .int .i64 3]) ∧ Below w.heap.size w w' := by
  have C := fun W (hW : Below w.heap.size w W) => locate_there _ fs A B f name W (hv.next hW) hs g T
  obtain ⟨b, off, cap, rfl, hb, hr, hk, hlt⟩ := there_row hv T
  have hfl := fileOk_len (T.ok g)
  have HR := hide hr
  have HK := hide hk
  have HT := hide T.eq
  have hb0 : b ≠ w.heap.size := by omega
  have hlti : (A.length : Int) < (fs.length : Int) := by omega
  have CS := fun W => dsize_any f W (by omega)
  obtain ⟨L, hL⟩ : ∃ L, f.s.length + f.t.length = L := ⟨_, rfl⟩
  rw [hL] at CS hfl hn
  clear hv hs g T hr hk hL HT
  by_cases h0 : n < 0
  · clear CS
    go_enter Tryd.func44, Tryd.ntmps44
    go_wp2_with fail
    have X := Boxes.start w (.slice (some ⟨b, off, none⟩) fs.length cap) 35 35
    generalize (w.alloc (.cells #[.slice (some ⟨b, off, none⟩) fs.length cap] 35)).alloc (.cells #[.slice none 0 0] 35) = w0 at *
    refine (C _ X.below).mono ?_
    rintro e w1 ⟨rfl, hb1⟩
    have X1 := X.next hb1
    have HX := hide X1
    have cd := X1.cd
    have r := (unhide HR).kept X1.below hb
    have e0 := r.c0 (unhide HK)
    have e1 := r.c1 (unhide HK)
    have e2 := r.c2 (unhide HK)
    clear C hb1 r X X1
    have cr := (unhide HX).cr
    have fr := (unhide HX).fr
    go_wp2_with fail
    exact bodyPost_ret (v := .tuple #[.agg #[.slice none 0 0], .int .i64 3]) (by simp [results, Tryd.results44, go_sem, cr]) rfl ⟨rfl, (unhide HX).below.setCell (by simp) _⟩
  · have hn1 : (L : Int) < n := by omega
    have h00 : ¬ n < 0 := h0
    go_enter Tryd.func44, Tryd.ntmps44
    go_wp2_with fail
    have X := Boxes.start w (.slice (some ⟨b, off, none⟩) fs.length cap) 35 35
    generalize (w.alloc (.cells #[.slice (some ⟨b, off, none⟩) fs.length cap] 35)).alloc (.cells #[.slice none 0 0] 35) = w0 at *
    refine (C _ X.below).mono ?_
    rintro e w1 ⟨rfl, hb1⟩
    have X1 := X.next hb1
    have HX := hide X1
    have cd := X1.cd
    have r := (unhide HR).kept X1.below hb
    have e0 := r.c0 (unhide HK)
    have e1 := r.c1 (unhide HK)
    have e2 := r.c2 (unhide HK)
    clear C hb1 r X X1
    go_wp2_with fail
    refine (CS _).mono ?_
    rintro e wx ⟨rfl, hbx⟩
    have X1 := (unhide HX).next hbx
    clear HX
    have HX := hide X1
    have cdx := X1.cd
    clear hbx X1
    have cr := (unhide HX).cr
    have fr := (unhide HX).fr
    go_wp2_with fail
    exact bodyPost_ret (v := .tuple #[.agg #[.slice none 0 0], .int .i64 3]) (by simp [results, Tryd.results44, go_sem, cr]) rfl ⟨rfl, (unhide HX).below.setCell (by simp) _⟩

/-- why a file is not cut -/
def CutNo (fs : List DF) (name : List UInt8) (n E : Int) : Prop := LocNo fs name E ∨ (GoodD fs ∧ (∃ A f B, There fs A f B name ∧ (n < 0 ∨ ((f.s.length + f.t.length : Nat) : Int) < n)) ∧ E = 3)
theorem locNo_ne {fs : List DF} {name : List UInt8} {E : Int} (h : LocNo fs name E) : (E != 0) = true := by rcases h with ⟨_, rfl⟩ | ⟨_, _, rfl⟩ <;> decide
theorem cutNo_ne {fs : List DF} {name : List UInt8} {n E : Int} (h : CutNo fs name n E) : (E != 0) = true := by
  rcases h with h | ⟨_, _, rfl⟩
  · exact locNo_ne h
  · decide
theorem cutNo_any (v : Value) (fs : List DF) (name : List UInt8) (n E : Int) (w : World) (hv : DiskV w v fs) (hs : Slim fs) (h : CutNo fs name n E) :
    Calls Tryd.prog 44 #[.agg #[v], .string ⟨name.toArray⟩, .int .i64 n] w fun e w' => e = .returned (.tuple #[.agg #[.slice none 0 0], .int .i64 E]) ∧ Below w.heap.size w w' := by
  rcases h with h | ⟨g, ⟨A, f, B, T, hn⟩, rfl⟩
  · exact cut_no v fs name n E w hv hs h
  · exact cut_out v fs A B f name n w hv hs g T hn
theorem cut_cases (fs : List DF) (name : List UInt8) (n : Int) : (∃ E, CutNo fs name n E) ∨ (GoodD fs ∧ ∃ A f B, There fs A f B name ∧ ∃ k : Nat, n = k ∧ k ≤ f.s.length + f.t.length) := by
  rcases loc_cases fs name with ⟨E, h⟩ | ⟨g, A, f, B, T⟩
  · exact .inl ⟨E, .inl h⟩
  · by_cases h : n < 0 ∨ ((f.s.length + f.t.length : Nat) : Int) < n
    · exact .inl ⟨3, .inr ⟨g, ⟨A, f, B, T, h⟩, rfl⟩⟩
    · exact .inr ⟨g, A, f, B, T, n.toNat, by omega, by omega⟩
end Go.Proofs.YtpoblkionpgljaaDoor

namespace Go.Proofs.YtpoblkionpgljaaDoor
open Go.RowKit
theorem good_nil1 : GoodD [] := goodD_true.1 goodD_nil
theorem gap_nil1 (name : List UInt8) : Gap [] [] [] name := ⟨rfl, by simp, by simp⟩
end Go.Proofs.YtpoblkionpgljaaDoor

namespace Go.Proofs.YtpoblkionpgljaaDoor
open Go.RowKit

set_option maxHeartbeats 400000 in
theorem rsync1_any (f : DF) (w : World) (hl : f.s.length + f.t.length ≤ 1048576) :
    Calls Tryd.prog 79 #[fileV f] w fun e w' => e = .returned (.tuple #[fileV ⟨f.n, f.s ++ f.t, []⟩, .int .i64 0]) ∧ Below w.heap.size w w' := by
  unfold fileV
  have hcat : ¬ 9223372036854775807 < f.s.length + f.t.length := by omega
  have hc : (ByteArray.mk f.s.toArray ++ ByteArray.mk f.t.toArray) = ⟨(f.s ++ f.t).toArray⟩ := dcat_one _ _
  go_enter Tryd.func79, Tryd.ntmps79
  go_wp2_with fail
  exact bodyPost_ret (v := .tuple #[.agg #[.string ⟨f.n.toArray⟩, .string ⟨(f.s ++ f.t).toArray⟩, .string ⟨#[]⟩], .int .i64 0]) (by simp [results, Tryd.results79, go_sem]) rfl ⟨rfl, ((Below.refl _ _).alloc (Nat.le_refl _) _).alloc (by simp) _⟩

set_option maxHeartbeats 1000000 in
theorem rcut1_no (f : DF) (q : Nat) (n : Int) (w : World) (hq : q < w.heap.size) (hc : w.cell? ⟨q, 0, none⟩ = some (.int .i64 n)) (hl : f.s.length + f.t.length ≤ 1048576) (hn : n < 0 ∨ ((f.s.length + f.t.length : Nat) : Int) < n) :
    Calls Tryd.prog 80 #[fileV f, .pointer (some ⟨q, 0, none⟩)] w fun e w' => e = .returned (.tuple #[fileV f, .int .i64 3]) ∧ Below w.heap.size w w' := by
  unfold fileV
  have hq0 : q ≠ w.heap.size := by omega
  have hq1 : q ≠ w.heap.size + 1 := by omega
  have hB := ((Below.refl _ w).alloc (Nat.le_refl _) (.cells #[.string ⟨f.n.toArray⟩, .string ⟨f.s.toArray⟩, .string ⟨f.t.toArray⟩] 62)).alloc (by simp) (.cells #[.string ⟨f.n.toArray⟩, .string ⟨f.s.toArray⟩, .string ⟨f.t.toArray⟩] 62)
  have HB := hide hB
  clear hB
  by_cases h0 : n < 0
  · clear hn
    go_enter Tryd.func80, Tryd.ntmps80
    go_wp2_with fail
    exact bodyPost_ret (v := .tuple #[.agg #[.string ⟨f.n.toArray⟩, .string ⟨f.s.toArray⟩, .string ⟨f.t.toArray⟩], .int .i64 3]) (by simp [results, Tryd.results80, go_sem]) rfl ⟨rfl, unhide HB⟩
  · have hn1 : (f.s.length : Int) + (f.t.length : Int) < n := by omega
    clear hn
    go_enter Tryd.func80, Tryd.ntmps80
    go_wp2_with fail
    exact bodyPost_ret (v := .tuple #[.agg #[.string ⟨f.n.toArray⟩, .string ⟨f.s.toArray⟩, .string ⟨f.t.toArray⟩], .int .i64 3]) (by simp [results, Tryd.results80, go_sem]) rfl ⟨rfl, unhide HB⟩

set_option maxHeartbeats 1000000 in
theorem rcut1_yes (f : DF) (q : Nat) (k : Nat) (w : World) (hq : q < w.heap.size) (hc : w.cell? ⟨q, 0, none⟩ = some (.int .i64 k)) (hl : f.s.length + f.t.length ≤ 1048576) (hk : k ≤ f.s.length + f.t.length) :
    Calls Tryd.prog 80 #[fileV f, .pointer (some ⟨q, 0, none⟩)] w fun e w' => e = .returned (.tuple #[fileV ⟨f.n, (f.s ++ f.t).take k, []⟩, .int .i64 0]) ∧ Below w.heap.size w w' := by
  unfold fileV
  have hq0 : q ≠ w.heap.size := by omega
  have hq1 : q ≠ w.heap.size + 1 := by omega
  have h0 : ¬ ((k : Int) < 0) := by omega
  have h1 : ¬ ((f.s.length : Int) + (f.t.length : Int) < (k : Int)) := by omega
  have h2 : (k : Int) ≤ (f.s.length : Int) + (f.t.length : Int) := by omega
  have hcat : ¬ 9223372036854775807 < f.s.length + f.t.length := by omega
  have hcl : (ByteArray.mk f.s.toArray ++ ByteArray.mk f.t.toArray).extract 0 k = ⟨((f.s ++ f.t).take k).toArray⟩ := by rw [dcat_one, dex_front]
  go_enter Tryd.func80, Tryd.ntmps80
  go_wp2_with fail
  go_region
  go_wp2_with fail
  exact bodyPost_ret (v := .tuple #[.agg #[.string ⟨f.n.toArray⟩, .string ⟨((f.s ++ f.t).take k).toArray⟩, .string ⟨#[]⟩], .int .i64 0]) (by simp [results, Tryd.results80, go_sem]) rfl ⟨rfl, (((Below.refl _ _).alloc (Nat.le_refl _) _).alloc (by simp) _).drew⟩

theorem Boxes.setd {w W : World} {v : Value} (h : Boxes w W v) (u : Value) : Boxes w (W.setCell ⟨w.heap.size, 0, none⟩ u) u := by
  have hne : (⟨w.heap.size, 0, none⟩ : Addr) ≠ ⟨w.heap.size + 1, 0, none⟩ := by intro e; injection e with e _ _; omega
  refine ⟨h.below.setCell (Nat.le_refl _) _, by simpa [World.setCell] using h.size, World.cell?_setCell_same _ _ _ h.cd, by rw [World.cell?_setCell_other _ _ _ _ hne]; exact h.cr, by rw [World.frozen?_setCell]; exact h.fr⟩
/-- the disk's own box may be written -/
def Soft (w W : World) : Prop := W.frozen? ⟨w.heap.size, 0, none⟩ = false
theorem Soft.next {w W V : World} (h : Soft w W) (hb : Below W.heap.size W V) (hs : w.heap.size < W.heap.size) : Soft w V := by
  unfold Soft at *
  rw [hb.frozen (p := ⟨w.heap.size, 0, none⟩) hs]; exact h

def fnV (fn : FuncId) (cb : Array Value) : Value := .func (.func fn) #[] cb

set_option maxHeartbeats 1000000 in
theorem rturn_no (v : Value) (fs : List DF) (name : List UInt8) (fn : FuncId) (cb : Array Value) (E : Int) (w : World) (hv : DiskV w v fs) (hs : Slim fs) (hl : fs.length ≤ 140737488355328) (h : LocNo fs name E) :
    Calls Tryd.prog 78 #[.agg #[v], .string ⟨name.toArray⟩, .func (.func fn) #[] cb] w fun e w' => e = .returned (.tuple #[.agg #[.slice none 0 0], .int .i64 E]) ∧ Below w.heap.size w w' := by
  have CG := fun W (hW : Below w.heap.size w W) => rdgood_any v fs W (hv.next hW) hs hl
  rcases h with ⟨hg, rfl⟩ | ⟨g, ⟨A, B, G⟩, rfl⟩
  · obtain ⟨a, n, c, rfl⟩ := disk_slice hv
    rw [hg] at CG
    clear hv hs hg
    go_enter Tryd.func78, Tryd.ntmps78
    go_wp2_with fail
    have X := Boxes.start w (.slice a n c) 35 35
    refine (CG _ X.below).mono ?_
    rintro e w1 ⟨rfl, hb1⟩
    have X1 := X.next hb1
    have cr := X1.cr
    have fr := X1.fr
    have HB := hide X1.below
    clear CG hb1 X X1
    go_wp2_with fail
    exact bodyPost_ret (v := .tuple #[.agg #[.slice none 0 0], .int .i64 3]) (by simp [results, Tryd.results78, go_sem, cr]) rfl ⟨rfl, (unhide HB).setCell (by simp) _⟩
  · have CF := fun W (hW : Below w.heap.size w W) => rfile_gap v fs A B name W (hv.next hW) g.few G
    obtain ⟨a, n, c, rfl⟩ := disk_slice hv
    rw [goodD_true.2 g] at CG
    clear hv hs g G
    go_enter Tryd.func78, Tryd.ntmps78
    go_wp2_with fail
    have X := Boxes.start w (.slice a n c) 35 35
    refine (CG _ X.below).mono ?_
    rintro e w1 ⟨rfl, hb1⟩
    have X1 := X.next hb1
    have HX := hide X1
    have cd := X1.cd
    clear CG hb1 X X1
    go_wp2_with fail
    refine (CF _ (unhide HX).below).mono ?_
    rintro e w2 ⟨rfl, hb2⟩
    have X2 := (unhide HX).next hb2
    have cr := X2.cr
    have fr := X2.fr
    have HB := hide X2.below
    clear CF hb2 HX cd X2
    go_wp2_with fail
    exact bodyPost_ret (v := .tuple #[.agg #[.slice none 0 0], .int .i64 7]) (by simp [results, Tryd.results78, go_sem, cr]) rfl ⟨rfl, (unhide HB).setCell (by simp) _⟩

theorem own_put3 {W : World} {g cap k : Nat} {fs : List DF} {f : DF} (h : Own W g cap fs) (hk : fs[k]? = some f) (x : DF) :
    Own (((W.setCell ⟨g, k * 3, none⟩ (.string ⟨x.n.toArray⟩)).setCell ⟨g, k * 3 + 1, none⟩ (.string ⟨x.s.toArray⟩)).setCell ⟨g, k * 3 + 2, none⟩ (.string ⟨x.t.toArray⟩)) g cap (fs.set k x) := by
  have hl := (List.getElem?_eq_some_iff.1 hk).1
  have h1 := h.s0 hk x.n
  have h2 := h1.s1 (f := ⟨x.n, f.s, f.t⟩) (by rw [List.getElem?_set_self hl]) x.s
  have h3 := h2.s2 (f := ⟨x.n, x.s, f.t⟩) (by rw [List.getElem?_set_self (by simpa using hl)]) x.t
  rw [List.set_set, List.set_set] at h3
  exact h3

set_option maxRecDepth 10000 in
set_option maxHeartbeats 2000000 in
theorem rturn_there (v : Value) (fs A B : List DF) (f f' : DF) (name : List UInt8) (fn : FuncId) (cb : Array Value) (E : Int) (w : World) (hv : DiskV w v fs) (hs : Slim fs) (g : GoodD fs) (T : There fs A f B name)
    (en : ∀ args W, (callFunc fn args).run Tryd.prog W = .ok (.enter fn args) W)
    (hfn : ∀ W, Below w.heap.size w W → Calls Tryd.prog fn (#[fileV f] ++ cb) W fun e w' => e = .returned (.tuple #[fileV f', .int .i64 E]) ∧ Below W.heap.size W w') :
    Calls Tryd.prog 78 #[.agg #[v], .string ⟨name.toArray⟩, .func (.func fn) #[] cb] w fun e w' => ∃ v', e = .returned (.tuple #[.agg #[v'], .int .i64 E]) ∧ ((E != 0) = true → v' = .slice none 0 0) ∧ (E = 0 → DiskV w' v' (A ++ f' :: B)) ∧ Below w.heap.size w w' := by
  have CG := fun W (hW : Below w.heap.size w W) => rdgood_any v fs W (hv.next hW) hs (by have := g.few; omega)
  have CF := fun W (hW : Below w.heap.size w W) => rfile_there v fs A B f name W (hv.next hW) g.few T
  have CY := fun W (hW : Below w.heap.size w W) => rcopy_any v fs W (hv.next hW) (by have := g.few; omega)
  have hk : fs[A.length]? = some f := by rw [T.eq]; simp
  have hlt : A.length < fs.length := (List.getElem?_eq_some_iff.1 hk).1
  have hlti : (A.length : Int) < (fs.length : Int) := by omega
  have hA0 : ¬ ((A.length : Int) < 0) := by omega
  have HK := hide hk
  have hset : fs.set A.length f' = A ++ f' :: B := by rw [T.eq]; simp
  have HSET := hide hset
  obtain ⟨a, n, c, rfl⟩ := disk_slice hv
  rw [goodD_true.2 g] at CG
  clear hv hs g T hk hset
  go_enter Tryd.func78, Tryd.ntmps78
  go_wp2_with fail
  have X := Boxes.start w (.slice a n c) 35 35
  have S : Soft w ((w.alloc (.cells #[.slice a n c] 35)).alloc (.cells #[.slice none 0 0] 35)) := by unfold Soft; simp
  refine (CG _ X.below).mono ?_
  rintro e w1 ⟨rfl, hb1⟩
  have X1 := X.next hb1
  have S1 := S.next hb1 (by simp; omega)
  have HX := hide X1
  have HS := hide S1
  have cd := X1.cd
  clear CG hb1 X X1 S S1
  go_wp2_with fail
  refine (CF _ (unhide HX).below).mono ?_
  rintro e w2 ⟨rfl, hb2⟩
  have X2 := (unhide HX).next hb2
  have S2 := (unhide HS).next hb2 (by have := (unhide HX).size; omega)
  clear HX HS cd
  have HX := hide X2
  have HS := hide S2
  have cd := X2.cd
  clear CF hb2 X2 S2
  go_wp2_with fail
  refine (CY _ (unhide HX).below).mono ?_
  rintro e w3 ⟨v3, rfl, ho, hb3⟩
  obtain ⟨q, cap, rfl, hq, ho⟩ := own_some ho hlt
  have hz2 := (unhide HX).size
  have X3 := (unhide HX).next hb3
  have S3 := (unhide HS).next hb3 (by omega)
  have cd3 := X3.cd
  have fd3 : w3.frozen? ⟨w.heap.size, 0, none⟩ = false := S3
  have hqw : q ≠ w.heap.size := by omega
  have e0x := ho.c0 (unhide HK)
  have e1x := ho.c1 (unhide HK)
  have e2x := ho.c2 (unhide HK)
  have X4 := X3.setd (.slice (some ⟨q, 0, none⟩) fs.length cap)
  have ho4 : Own (w3.setCell ⟨w.heap.size, 0, none⟩ (.slice (some ⟨q, 0, none⟩) fs.length cap)) q cap fs := ho.other (by show q ≠ w.heap.size; omega) _
  have HX4 := hide X4
  have HO4 := hide ho4
  clear CY hb3 HX HS cd X3 S3 X4 ho ho4
  have HFN := hide hfn
  clear hfn
  go_wp2_with fail
  generalize w3.setCell ⟨w.heap.size, 0, none⟩ (.slice (some ⟨q, 0, none⟩) fs.length cap) = W4 at *
  have hF := unhide HFN W4 (unhide HX4).below
  clear e0x e1x e2x cd3 fd3
  refine hF.mono ?_
  rintro e w5 ⟨rfl, hb5⟩
  have X5 := (unhide HX4).next hb5
  have O5 := (unhide HO4).next hb5
  have cd5 := X5.cd
  have cr5 := X5.cr
  have fr5 := X5.fr
  have e0 := O5.c0 (unhide HK)
  have e1 := O5.c1 (unhide HK)
  have e2 := O5.c2 (unhide HK)
  have f0 := O5.frozen (A.length * 3)
  have f1 := O5.frozen (A.length * 3 + 1)
  have f2 := O5.frozen (A.length * 3 + 2)
  have hq5 := O5.lt
  have hl5 : w.heap.size < w5.heap.size := by have := X5.size; omega
  have hl6 : w.heap.size + 1 < w5.heap.size := by have := X5.size; omega
  have hq6 : q ≠ w.heap.size + 1 := by omega
  have HX5 := hide X5
  have HO5 := hide O5
  unfold fileV
  clear hF hb5 HX4 HO4 HFN X5 O5
  by_cases hE : E = 0
  · subst hE
    go_wp2_with fail
    have h3 := own_put3 (unhide HO5) (unhide HK) f'
    rw [unhide HSET] at h3
    have h4 := (h3.other (a := ⟨w.heap.size + 1, 0, none⟩) (by show q ≠ w.heap.size + 1; omega) (.slice (some ⟨q, 0, none⟩) fs.length cap)).alloc (.cells #[.string ⟨f'.n.toArray⟩, .string ⟨f'.s.toArray⟩, .string ⟨f'.t.toArray⟩] 62)
    have hlen : fs.length = (A ++ f' :: B).length := by rw [← unhide HSET]; simp
    have hB := (((((unhide HX5).below.setCell (p := ⟨q, A.length * 3, none⟩) (by show w.heap.size ≤ q; omega) (.string ⟨f'.n.toArray⟩)).setCell (p := ⟨q, A.length * 3 + 1, none⟩) (by show w.heap.size ≤ q; omega) (.string ⟨f'.s.toArray⟩)).setCell (p := ⟨q, A.length * 3 + 2, none⟩) (by show w.heap.size ≤ q; omega) (.string ⟨f'.t.toArray⟩)).setCell (p := ⟨w.heap.size + 1, 0, none⟩) (by simp) (.slice (some ⟨q, 0, none⟩) fs.length cap))
    exact bodyPost_ret (v := .tuple #[.agg #[.slice (some ⟨q, 0, none⟩) fs.length cap], .int .i64 0]) (by simp [results, Tryd.results78, go_sem, cr5, hl6]) rfl
      ⟨_, rfl, OwnV.disk (B := 0) (.inr ⟨q, cap, by rw [hlen], Nat.zero_le _, h4⟩), hB.alloc hB.size _⟩
  · have hne : (E != 0) = true := by simpa using hE
    go_wp2_with fail
    have hB := (unhide HX5).below.setCell (p := ⟨w.heap.size + 1, 0, none⟩) (by simp) (.slice none 0 0)
    exact bodyPost_ret (v := .tuple #[.agg #[.slice none 0 0], .int .i64 E]) (by simp [results, Tryd.results78, go_sem, cr5, hl6]) rfl
      ⟨_, rfl, fun _ => rfl, fun h => absurd h hE, hB.alloc hB.size _⟩

/- aviaryref.Sync and Cut -/
theorem DiskV.apart {w : World} {v : Value} {fs : List DF} {k : Nat} {a : Option Addr} {n c : Nat} (h : DiskV w v fs) (hb : BoxAt w k (.slice a n c)) (u : Value) : DiskV (w.setCell ⟨k, 0, none⟩ u) v fs := by
  rcases h with h | ⟨b, off, cap, rfl, h1, h2, h3, h0, h4⟩
  · exact .inl h
  · have hne : b ≠ k := by
      rintro rfl
      cases fs with
      | nil => exact h0 rfl
      | cons f r =>
        have := h4 0 (.string ⟨f.n.toArray⟩) rfl
        unfold BoxAt at hb
        simp [World.cell?, hb] at this
        cases off with
        | zero => simp at this
        | succ o => simp at this
    refine .inr ⟨b, off, cap, rfl, h1, h2, by simpa [World.setCell] using h3, h0, fun j u' hj => ?_⟩
    rw [World.cell?_setCell_other _ _ _ _ (by intro e; exact hne (congrArg Addr.block e).symm)]
    exact h4 j u' hj
set_option maxHeartbeats 1000000 in
theorem rsync_walk (v : Value) (fs : List DF) (name : List UInt8) (d : List DF) (E : Int) (w : World) (hv : DiskV w v fs)
    (CT : ∀ W, DiskV W v fs → Calls Tryd.prog 78 #[.agg #[v], .string ⟨name.toArray⟩, .func (.func 79) #[] #[]] W fun e w' => ∃ a n c, e = .returned (.tuple #[.agg #[.slice a n c], .int .i64 E]) ∧ Hid (DiskV w' (.slice a n c) d) ∧ Below W.heap.size W w') :
    Calls Tryd.prog 42 #[.agg #[v], .string ⟨name.toArray⟩] w fun e w' => ∃ a n c, e = .returned (.tuple #[.agg #[.slice a n c], .int .i64 E]) ∧ Hid (DiskV w' (.slice a n c) d) ∧ Below w.heap.size w w' := by
  have HV := hide hv
  obtain ⟨a, n, c, rfl⟩ := disk_slice hv
  have HT := hide CT
  clear hv CT
  go_enter Tryd.func42, Tryd.ntmps42
  go_wp2_with fail
  have X := Boxes.start w (.slice a n c) 35 35
  have Y := BoxAt.new (w.alloc (.cells #[.slice a n c] 35)) (.slice none 0 0)
  rw [World.size_alloc] at Y
  refine (unhide HT _ ((unhide HV).next X.below)).mono ?_
  rintro e w1 ⟨a1, n1, c1, rfl, hd, hb1⟩
  have X1 := X.next hb1
  have Y1 := Y.next hb1
  have cr := X1.cr
  have fr := X1.fr
  have HB := hide X1.below
  have HY := hide Y1
  clear HT HV hb1 X X1 Y Y1
  go_wp2_with fail
  exact bodyPost_ret (v := .tuple #[.agg #[.slice a1 n1 c1], .int .i64 E]) (by simp [results, Tryd.results42, go_sem, cr]) rfl ⟨a1, n1, c1, rfl, (unhide hd).apart (unhide HY) _, (unhide HB).setCell (by simp) _⟩

theorem cell_one {w : World} {k : Nat} {x : Value} {t : TypeId} {fz : Nat × Nat} (h : w.heap[k]? = some (.cells #[x] t fz)) : w.cell? ⟨k, 0, none⟩ = some x := by simp [World.cell?, h]
set_option maxHeartbeats 1000000 in
theorem rcut_walk (v : Value) (fs : List DF) (name : List UInt8) (n0 : Int) (d : List DF) (E : Int) (w : World) (hv : DiskV w v fs)
    (CT : ∀ W q, q < W.heap.size → W.cell? ⟨q, 0, none⟩ = some (.int .i64 n0) → DiskV W v fs → Calls Tryd.prog 78 #[.agg #[v], .string ⟨name.toArray⟩, .func (.func 80) #[] #[.pointer (some ⟨q, 0, none⟩)]] W fun e w' => ∃ a n c, e = .returned (.tuple #[.agg #[.slice a n c], .int .i64 E]) ∧ Hid (DiskV w' (.slice a n c) d) ∧ Below W.heap.size W w') :
    Calls Tryd.prog 46 #[.agg #[v], .string ⟨name.toArray⟩, .int .i64 n0] w fun e w' => ∃ a n c, e = .returned (.tuple #[.agg #[.slice a n c], .int .i64 E]) ∧ Hid (DiskV w' (.slice a n c) d) ∧ Below w.heap.size w w' := by
  have HV := hide hv
  obtain ⟨a, n, c, rfl⟩ := disk_slice hv
  have HT := hide CT
  clear hv CT
  go_enter Tryd.func46, Tryd.ntmps46
  go_wp2_with fail
  obtain ⟨W0, hW0⟩ : ∃ W, W = ((w.alloc (.cells #[.slice a n c] 35)).alloc (.cells #[.int .i64 n0] 3)).alloc (.cells #[.slice none 0 0] 35) := ⟨_, rfl⟩
  have hB : Below w.heap.size w W0 := by rw [hW0]; exact (((Below.refl _ w).alloc (Nat.le_refl _) (.cells #[.slice a n c] 35)).alloc (by simp) (.cells #[.int .i64 n0] 3)).alloc (by rw [World.size_alloc, World.size_alloc]; omega) (.cells #[.slice none 0 0] 35)
  have cq : W0.cell? ⟨w.heap.size + 1, 0, none⟩ = some (.int .i64 n0) := by
    rw [hW0]
    refine Lib.cell?_alloc_some _ ?_
    have h := heap_alloc_new (w.alloc (.cells #[.slice a n c] 35)) (.cells #[.int .i64 n0] 3)
    rw [World.size_alloc] at h
    exact cell_one h
  have hq : w.heap.size + 1 < W0.heap.size := by rw [hW0]; simp
  have Y : BoxAt W0 (w.heap.size + 1 + 1) (.slice none 0 0) := by
    rw [hW0]
    have := BoxAt.new ((w.alloc (.cells #[.slice a n c] 35)).alloc (.cells #[.int .i64 n0] 3)) (.slice none 0 0)
    rwa [World.size_alloc, World.size_alloc] at this
  rw [← hW0]
  clear hW0
  refine (unhide HT _ _ hq cq ((unhide HV).next hB)).mono ?_
  rintro e w1 ⟨a1, n1, c1, rfl, hd, hb1⟩
  have Y1 := Y.next hb1
  have cr := Y1.c
  have fr := Y1.f
  have HB := hide (dbelow_next hB hb1)
  have HY := hide Y1
  clear HT HV hb1 Y Y1 hB cq hq
  go_wp2_with fail
  exact bodyPost_ret (v := .tuple #[.agg #[.slice a1 n1 c1], .int .i64 E]) (by simp [results, Tryd.results46, go_sem, cr]) rfl ⟨a1, n1, c1, rfl, (unhide hd).apart (unhide HY) _, (unhide HB).setCell (by show w.heap.size ≤ w.heap.size + 1 + 1; omega) _⟩

theorem enter_sync1 : ∀ args W, (callFunc 79 args).run Tryd.prog W = .ok (.enter 79 args) W := enters_of Tryd.func79 (by kernel_rfl) rfl
theorem enter_cut1 : ∀ args W, (callFunc 80 args).run Tryd.prog W = .ok (.enter 80 args) W := enters_of Tryd.func80 (by kernel_rfl) rfl
theorem turn_no {v : Value} {name : List UInt8} {fn : FuncId} {cb : Array Value} {E : Int} {W : World} (h : Calls Tryd.prog 78 #[.agg #[v], .string ⟨name.toArray⟩, .func (.func fn) #[] cb] W fun e w' => e = .returned (.tuple #[.agg #[.slice none 0 0], .int .i64 E]) ∧ Below W.heap.size W w') :
    Calls Tryd.prog 78 #[.agg #[v], .string ⟨name.toArray⟩, .func (.func fn) #[] cb] W fun e w' => ∃ a n c, e = .returned (.tuple #[.agg #[.slice a n c], .int .i64 E]) ∧ Hid (DiskV w' (.slice a n c) []) ∧ Below W.heap.size W w' :=
  h.mono fun _ w' ⟨he, hb⟩ => ⟨_, _, _, he, DiskV.nil w', hb⟩

theorem both_sync (fs : List DF) (name : List UInt8) (hs : Slim fs) (hl : fs.length ≤ 140737488355328) : ∃ E d, d.length ≤ 1000000 ∧ GivesD 40 (fun x => #[x, .string ⟨name.toArray⟩]) fs d E ∧ GivesD 42 (fun x => #[x, .string ⟨name.toArray⟩]) fs d E := by
  rcases loc_cases fs name with ⟨E, h⟩ | ⟨g, A, f, B, T⟩
  · exact ⟨E, [], by simp, gives_no fun v W hv => sync_no v fs name E W hv hs h, fun v W hv => rsync_walk v fs name [] E W hv fun W' hv' => turn_no (rturn_no v fs name _ _ E W' hv' hs hl h)⟩
  · have hfl := fileOk_len (T.ok g)
    refine ⟨0, A ++ ⟨f.n, f.s ++ f.t, []⟩ :: B, by have := g.few; rw [T.eq] at this; simp at this ⊢; omega, gives_own fun v W hv => sync_there v fs A B f name W hv hs g T, fun v W hv => rsync_walk v fs name _ 0 W hv fun W' hv' => ?_⟩
    refine (rturn_there v fs A B f ⟨f.n, f.s ++ f.t, []⟩ name _ #[] 0 W' hv' hs g T enter_sync1 (fun V _ => rsync1_any f V hfl)).mono fun e w' ⟨v', he, _, hd, hb⟩ => ?_
    obtain ⟨a, n, c, rfl⟩ := disk_slice (hd rfl)
    exact ⟨a, n, c, he, hd rfl, hb⟩
theorem both_cut (fs : List DF) (name : List UInt8) (n : Int) (hs : Slim fs) (hl : fs.length ≤ 140737488355328) : ∃ E d, d.length ≤ 1000000 ∧ GivesD 44 (fun x => #[x, .string ⟨name.toArray⟩, .int .i64 n]) fs d E ∧ GivesD 46 (fun x => #[x, .string ⟨name.toArray⟩, .int .i64 n]) fs d E := by
  rcases loc_cases fs name with ⟨E, h⟩ | ⟨g, A, f, B, T⟩
  · exact ⟨E, [], by simp, gives_no fun v W hv => cut_no v fs name n E W hv hs h, fun v W hv => rcut_walk v fs name n [] E W hv fun W' q _ _ hv' => turn_no (rturn_no v fs name _ _ E W' hv' hs hl h)⟩
  · have hfl := fileOk_len (T.ok g)
    by_cases h : n < 0 ∨ ((f.s.length + f.t.length : Nat) : Int) < n
    · refine ⟨3, [], by simp, gives_no fun v W hv => cut_out v fs A B f name n W hv hs g T h, fun v W hv => rcut_walk v fs name n _ 3 W hv fun W' q hq hc hv' => ?_⟩
      refine (rturn_there v fs A B f f name _ #[.pointer (some ⟨q, 0, none⟩)] 3 W' hv' hs g T enter_cut1 (fun V hV => rcut1_no f q n V (Nat.lt_of_lt_of_le hq hV.size) ((hV.cell (p := ⟨q, 0, none⟩) hq).trans hc) hfl h)).mono fun e w' ⟨v', he, hn, _, hb⟩ => ?_
      have := hn (by decide)
      subst this
      exact ⟨_, _, _, he, DiskV.nil w', hb⟩
    · obtain ⟨k, rfl⟩ : ∃ k : Nat, n = k := ⟨n.toNat, by omega⟩
      refine ⟨0, A ++ ⟨f.n, (f.s ++ f.t).take k, []⟩ :: B, by have := g.few; rw [T.eq] at this; simp at this ⊢; omega, gives_own fun v W hv => cut_there v fs A B f name k W hv hs g T (by omega), fun v W hv => rcut_walk v fs name k _ 0 W hv fun W' q hq hc hv' => ?_⟩
      refine (rturn_there v fs A B f ⟨f.n, (f.s ++ f.t).take k, []⟩ name _ #[.pointer (some ⟨q, 0, none⟩)] 0 W' hv' hs g T enter_cut1 (fun V hV => rcut1_yes f q k V (Nat.lt_of_lt_of_le hq hV.size) ((hV.cell (p := ⟨q, 0, none⟩) hq).trans hc) hfl (by omega))).mono fun e w' ⟨v', he, _, hd, hb⟩ => ?_
      obtain ⟨a, n, c, rfl⟩ := disk_slice (hd rfl)
      exact ⟨a, n, c, he, hd rfl, hb⟩
end Go.Proofs.YtpoblkionpgljaaDoor
