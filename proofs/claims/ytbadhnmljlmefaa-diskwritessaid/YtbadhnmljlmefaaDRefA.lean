/-
  What aviaryref.GoodDisk and file answer: the walks.
-/
import Derived.Test.YtbadhnmljlmefaaDQ
import Derived.Test.YtbadhnmljlmefaaRefNamed
namespace Go.Proofs.Ytbadhnmljlmefaa
open Go.RowKit

set_option maxHeartbeats 2000000 in
theorem rgood_some (b off cap : Nat) (fs : List DF) (w : World) (hs : Slim fs) (hl : fs.length ≤ 140737488355328) (hb : b < w.heap.size) (h : RowAt w b off (cellsF fs)) :
    Calls Try.prog 14 #[.agg #[.slice (some ⟨b, off, none⟩) fs.length cap]] w fun e w' => e = .returned (.bool (goodD fs)) ∧ Below w.heap.size w w' := by
  have H := hide h
  have HS := hide hs
  have NO := hide (fun (k : Nat) (f : DF) => @bad_file fs k f)
  have NR := hide (fun (k : Nat) (f g : DF) => @bad_order fs k f g)
  have YES := hide (fun h => @good_of_okTo fs h)
  have LONG := hide (@bad_len fs)
  have Z := hide (okTo_zero fs)
  have SU := hide (fun (k : Nat) (f : DF) (h : OkTo fs k) => okTo_succ (f := f) h)
  have hb0 : b ≠ w.heap.size := by omega
  clear h hs
  generalize goodD fs = G at NO NR YES LONG ⊢
  go_enter Try.func14, Try.ntmps14
  go_wp2_with fail
  go_loopg [8] fs.length (fun kx s12 wr => ∃ k : Nat, s12 = .int .i64 k ∧ k ≤ fs.length ∧ fs.length - k ≤ kx ∧ Hid (Below w.heap.size w wr ∧ w.heap.size < wr.heap.size ∧ wr.cell? ⟨w.heap.size, 0, none⟩ = some (.slice (some ⟨b, off, none⟩) fs.length cap)) ∧ Hid (OkTo fs k))
  case atStart => exact ⟨0, rfl, Nat.zero_le _, by omega, hide ⟨(Below.refl _ _).alloc (Nat.le_refl _) _, by simp, by simp⟩, Z⟩
  case round =>
    obtain ⟨k, rfl, hk, hg, hB, hO⟩ := hrel
    by_cases hlt : k < fs.length
    · obtain ⟨f, hf⟩ : ∃ f, fs[k]? = some f := ⟨_, List.getElem?_eq_getElem hlt⟩
      have HF := hide hf
      have r := (unhide H).kept (unhide hB).1 hb
      have e0 := r.c0 hf
      have e1 := r.c1 hf
      have e2 := r.c2 hf
      have hsl := unhide HS f (List.mem_of_getElem? hf)
      have hbw : b < wr.heap.size := Nat.lt_of_lt_of_le hb (unhide hB).1.size
      have h00 := (unhide hB).2.2
      clear hf r
      obtain ⟨W1, hW1⟩ : ∃ W1, W1 = wr.alloc (.cells #[.string ⟨f.n.toArray⟩, .string ⟨f.s.toArray⟩, .string ⟨f.t.toArray⟩] 41) := ⟨_, rfl⟩
      have hBa : Below wr.heap.size wr W1 := by rw [hW1]; exact (Below.refl _ _).alloc (Nat.le_refl _) _
      have hBw : Below w.heap.size w W1 := below_next (unhide hB).1 hBa
      have hz1 : w.heap.size < W1.heap.size := Nat.lt_of_lt_of_le (unhide hB).2.1 hBa.size
      have h01 : W1.cell? ⟨w.heap.size, 0, none⟩ = some (.slice (some ⟨b, off, none⟩) fs.length cap) := by rw [hBa.cell (p := ⟨w.heap.size, 0, none⟩) (unhide hB).2.1]; exact h00
      have b0 : W1.cell? ⟨wr.heap.size, 0, none⟩ = some (.string ⟨f.n.toArray⟩) := by rw [hW1]; simp
      have b1 : W1.cell? ⟨wr.heap.size, 1, none⟩ = some (.string ⟨f.s.toArray⟩) := by rw [hW1]; simp
      have b2 : W1.cell? ⟨wr.heap.size, 2, none⟩ = some (.string ⟨f.t.toArray⟩) := by rw [hW1]; simp
      have hzb : wr.heap.size < W1.heap.size := by rw [hW1]; simp
      have HF1 : Hid (Below w.heap.size w W1 ∧ w.heap.size < W1.heap.size ∧ wr.heap.size < W1.heap.size) := ⟨hBw, hz1, hzb⟩
      have CN := fun W => refNamed_any f.n W hsl.1
      have HL := hide hsl
      have hsum : ¬ 9223372036854775807 < f.s.length + f.t.length := by omega
      have hW1' := hide hW1
      have HE := hide (And.intro h01 (And.intro b0 (And.intro b1 b2)))
      clear hBa hBw hz1 hzb h00 hsl
      go_wp2_with fail
      rw [← hW1]
      clear hW1 e0 e1 e2
      refine (CN _).mono ?_
      rintro e w1 ⟨rfl, hb1⟩
      have hB1 := below_next (unhide HF1).1 hb1
      have hlt1 : w.heap.size < w1.heap.size := Nat.lt_of_lt_of_le (unhide HF1).2.1 hb1.size
      have g0 : w1.cell? ⟨w.heap.size, 0, none⟩ = some (.slice (some ⟨b, off, none⟩) fs.length cap) := (hb1.cell (p := ⟨w.heap.size, 0, none⟩) (unhide HF1).2.1).trans (unhide HE).1
      have g1 : w1.cell? ⟨wr.heap.size, 0, none⟩ = some (.string ⟨f.n.toArray⟩) := (hb1.cell (p := ⟨wr.heap.size, 0, none⟩) (unhide HF1).2.2).trans (unhide HE).2.1
      have g2 : w1.cell? ⟨wr.heap.size, 1, none⟩ = some (.string ⟨f.s.toArray⟩) := (hb1.cell (p := ⟨wr.heap.size, 1, none⟩) (unhide HF1).2.2).trans (unhide HE).2.2.1
      have g3 : w1.cell? ⟨wr.heap.size, 2, none⟩ = some (.string ⟨f.t.toArray⟩) := (hb1.cell (p := ⟨wr.heap.size, 2, none⟩) (unhide HF1).2.2).trans (unhide HE).2.2.2
      have HB1 := hide hB1
      clear CN hb1 hB1 h01 b0 b1 b2 HE HF1 hW1'
      cases hn : namedB f.n with
      | false =>
        have HN := hide hn
        clear hn
        go_wp2_with fail
        go_ret
        exact ⟨ret_bool (unhide NO k f (unhide HF) (fileOk_short (unhide HN))).symm, unhide HB1⟩
      | true =>
        have HN := hide hn
        clear hn
        by_cases hbig : f.s.length + f.t.length ≤ 1048576
        · have hok := fileOk_yes (unhide HN) hbig
          have hbi : ¬ ((1048576 : Int) < (f.s.length : Int) + (f.t.length : Int)) := by omega
          rcases Nat.eq_zero_or_pos k with hk0 | hk0
          · subst hk0
            have OK2 := hide (unhide SU 0 f (unhide hO) (unhide HF) hok (fun g h => absurd h (Nat.lt_irrefl 0)))
            go_wp2_with fail
            go_region
            go_wp2_with fail
            go_roundg (fs.length - 1)
            case measure => omega
            case rel => exact ⟨1, rfl, by omega, Nat.le_refl _, hide ⟨(unhide HB1).drew, hlt1, g0⟩, OK2⟩
          · obtain ⟨m, rfl⟩ : ∃ m, k = m + 1 := ⟨k - 1, by omega⟩
            obtain ⟨g, hg⟩ : ∃ g, fs[m]? = some g := ⟨_, List.getElem?_eq_getElem (by omega)⟩
            have r := (unhide H).kept (unhide HB1) hb
            have e0 := r.c0 hg
            have HG := hide hg
            clear r hg
            have hm1 : (m : Int) < (fs.length : Int) := by omega
            cases hbl : bl g.n f.n with
            | true =>
              have OK2 := hide (unhide SU (m + 1) f (unhide hO) (unhide HF) hok (fun g' _ h => by
                rw [Nat.add_sub_cancel, unhide HG] at h
                cases h
                exact hbl))
              have hbl' : Op.bytesLess g.n f.n = true := hbl
              clear hbl
              go_wp2_with fail
              go_region
              go_wp2_with fail
              go_roundg (fs.length - (m + 1 + 1))
              case measure => omega
              case rel => exact ⟨m + 1 + 1, rfl, by omega, Nat.le_refl _, hide ⟨(unhide HB1).drew, hlt1, g0⟩, OK2⟩
            | false =>
              have hbl' : Op.bytesLess g.n f.n = false := hbl
              have HGF := hide (unhide NR (m + 1) f g (unhide HF) (by simpa using unhide HG) (by omega) hbl).symm
              clear hbl
              go_wp2_with fail
              go_region
              go_wp2_with fail
              go_ret
              exact ⟨ret_bool (unhide HGF), (unhide HB1).drew⟩
        · have hbi : (1048576 : Int) < (f.s.length : Int) + (f.t.length : Int) := by omega
          go_wp2_with fail
          go_ret
          exact ⟨ret_bool (unhide NO k f (unhide HF) (fileOk_long (by omega))).symm, unhide HB1⟩
    · have hkk : k = fs.length := by omega
      subst hkk
      have h00 := (unhide hB).2.2
      by_cases h16 : fs.length ≤ 16
      · have h16i : (fs.length : Int) ≤ 16 := by omega
        go_wp2_with fail
        go_ret
        exact ⟨ret_bool (by rw [unhide YES h16 (unhide hO)]), (unhide hB).1⟩
      · have h16i : ¬ ((fs.length : Int) ≤ 16) := by omega
        go_wp2_with fail
        go_ret
        exact ⟨ret_bool (by rw [unhide LONG (by omega)]), (unhide hB).1⟩

set_option maxHeartbeats 1000000 in
theorem rgood_none (a : Option Addr) (cap : Nat) (w : World) :
    Calls Try.prog 14 #[.agg #[.slice a 0 cap]] w fun e w' => e = .returned (.bool true) ∧ Below w.heap.size w w' := by
  go_enter Try.func14, Try.ntmps14
  go_wp2_with fail
  go_loopg [8] 1 (fun _ s wr => s = .int .i64 0 ∧ wr = w.alloc (.cells #[.slice a 0 cap] 24))
  case atStart => exact ⟨rfl, rfl⟩
  case round =>
    obtain ⟨rfl, rfl⟩ := hrel
    go_wp2_with fail
    go_ret
    exact ⟨rfl, (Below.refl _ _).alloc (Nat.le_refl _) _⟩
theorem rgood_any (v : Value) (fs : List DF) (w : World) (hv : DiskV w v fs) (hs : Slim fs) (hl : fs.length ≤ 140737488355328) :
    Calls Try.prog 14 #[.agg #[v]] w fun e w' => e = .returned (.bool (goodD fs)) ∧ Below w.heap.size w w' := by
  rcases hv with ⟨a, cap, rfl, rfl, _⟩ | ⟨b, off, cap, rfl, _, _, hb, _, hr⟩
  · rw [goodD_nil]; exact rgood_none a cap w
  · exact rgood_some b off cap fs w hs hl hb hr

/- aviaryref.file -/
/-- where the first file of this name stands -/
def posI (A R : List DF) : Int := match R with
  | [] => -1
  | _ :: _ => (A.length : Int)
set_option maxHeartbeats 1000000 in
theorem rfile_split (v : Value) (fs A R : List DF) (name : List UInt8) (w : World) (hv : DiskV w v fs) (hl : fs.length ≤ 16) (he : fs = A ++ R) (lo : ∀ a ∈ A, a.n ≠ name) (hi : ∀ f B, R = f :: B → f.n = name) :
    Calls Try.prog 38 #[.agg #[v], .string ⟨name.toArray⟩] w fun e w' => e = .returned (.int .i64 (posI A R)) ∧ Below w.heap.size w w' := by
  obtain ⟨a, c, rfl, hrow⟩ : ∃ a c, v = .slice a fs.length c ∧ (0 < fs.length → ∃ b off, a = some ⟨b, off, none⟩ ∧ b < w.heap.size ∧ RowAt w b off (cellsF fs)) := by
    rcases hv with ⟨a, cap, rfl, rfl, _⟩ | ⟨b, off, cap, rfl, _, _, hb, _, hr⟩
    · exact ⟨a, cap, rfl, fun h => by simp at h⟩
    · exact ⟨_, cap, rfl, fun _ => ⟨b, off, rfl, hb, hr⟩⟩
  have HR := hide hrow
  have HE := hide he
  have LO := hide lo
  have HI := hide hi
  have hal : A.length ≤ fs.length := by rw [he]; simp
  clear hv hrow he lo hi
  go_enter Try.func38, Try.ntmps38
  go_wp2_with fail
  go_loopg [10] fs.length (fun kx s wr => ∃ k : Nat, s = .int .i64 k ∧ k ≤ A.length ∧ fs.length - k ≤ kx ∧ Hid (Below w.heap.size w wr))
  case atStart => exact ⟨0, rfl, Nat.zero_le _, by omega, hide ((Below.refl _ _).alloc (Nat.le_refl _) _)⟩
  case round =>
    obtain ⟨k, rfl, hk, hkx, hB⟩ := hrel
    by_cases hlt : k < fs.length
    · obtain ⟨b, off, rfl, hb, hr⟩ := unhide HR (by omega)
      obtain ⟨f, hf⟩ : ∃ f, fs[k]? = some f := ⟨_, List.getElem?_eq_getElem hlt⟩
      have r := hr.kept (unhide hB) hb
      have e0 := r.c0 hf
      have e1 := r.c1 hf
      have e2 := r.c2 hf
      have hbw : b < wr.heap.size := Nat.lt_of_lt_of_le hb (unhide hB).size
      have hlti : (k : Int) < (fs.length : Int) := by omega
      have hal2 := (unhide hB).alloc (unhide hB).size (.cells #[.string ⟨f.n.toArray⟩, .string ⟨f.s.toArray⟩, .string ⟨f.t.toArray⟩] 41)
      have HAL := hide hal2
      have HF := hide hf
      clear r hr hf hal2
      by_cases hka : k < A.length
      · have hn : (f.n == name) = false := by
          have hf := unhide HF
          rw [unhide HE, List.getElem?_append_left hka] at hf
          simpa using unhide LO f (List.mem_of_getElem? hf)
        go_wp2_with fail
        go_roundg (fs.length - (k + 1))
        case measure => omega
        case rel => exact ⟨k + 1, rfl, by omega, Nat.le_refl _, HAL⟩
      · obtain rfl : k = A.length := by omega
        have hR : ∃ B, R = f :: B := by
          have hf := unhide HF
          rw [unhide HE, List.getElem?_append_right (Nat.le_refl _), Nat.sub_self] at hf
          cases R with
          | nil => simp at hf
          | cons x B => simp at hf; exact ⟨B, by rw [hf]⟩
        obtain ⟨B, rfl⟩ := hR
        have hn : f.n = name := unhide HI f B rfl
        rw [hn] at e0 HAL
        clear hn
        go_wp2_with fail
        go_ret
        exact ⟨rfl, unhide HAL⟩
    · have hki : ¬ ((k : Int) < (fs.length : Int)) := by omega
      have hR : R = [] := by
        have : fs.length = A.length + R.length := by rw [unhide HE]; simp
        exact List.eq_nil_of_length_eq_zero (by omega)
      subst hR
      go_wp2_with fail
      go_ret
      exact ⟨rfl, unhide hB⟩
theorem rfile_there (v : Value) (fs A B : List DF) (f : DF) (name : List UInt8) (w : World) (hv : DiskV w v fs) (hl : fs.length ≤ 16) (T : There fs A f B name) :
    Calls Try.prog 38 #[.agg #[v], .string ⟨name.toArray⟩] w fun e w' => e = .returned (.int .i64 (A.length : Int)) ∧ Below w.heap.size w w' :=
  rfile_split v fs A (f :: B) name w hv hl T.eq (fun a ha => bl_ne (T.lo a ha)) (fun f' B' h => by cases h; exact T.nm)
theorem rfile_gap (v : Value) (fs A B : List DF) (name : List UInt8) (w : World) (hv : DiskV w v fs) (hl : fs.length ≤ 16) (G : Gap fs A B name) :
    Calls Try.prog 38 #[.agg #[v], .string ⟨name.toArray⟩] w fun e w' => e = .returned (.int .i64 (-1)) ∧ Below w.heap.size w w' :=
  rfile_split v fs fs [] name w hv hl (by simp) (fun a ha => by
    rw [G.eq] at ha
    rcases List.mem_append.1 ha with h | h
    · exact bl_ne (G.lo a h)
    · exact (bl_ne (G.hi a h)).symm) (fun f' B' h => by cases h)
end Go.Proofs.Ytbadhnmljlmefaa
