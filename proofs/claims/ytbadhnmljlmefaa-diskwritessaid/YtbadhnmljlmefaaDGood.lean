/-
  What disk.Good answers, for every disk: the walk.
-/
import Derived.Test.YtbadhnmljlmefaaDFind
namespace Go.Proofs.Ytbadhnmljlmefaa
open Go.RowKit

theorem fileOk_short {f : DF} (h1 : namedB f.n = false) : fileOk f = false := by simp [fileOk, h1]
theorem fileOk_long {f : DF} (h : 1048576 < f.s.length + f.t.length) : fileOk f = false := by simp [fileOk]; intro _; omega
theorem fileOk_yes {f : DF} (h1 : namedB f.n = true) (h : f.s.length + f.t.length ≤ 1048576) : fileOk f = true := by simp [fileOk, h1, h]
theorem bcell {W w1 : World} (hb : Below W.heap.size W w1) : (∀ b o, b < W.heap.size → w1.cell? ⟨b, o, none⟩ = W.cell? ⟨b, o, none⟩) ∧ (∀ b o, b < W.heap.size → w1.frozen? ⟨b, o, none⟩ = W.frozen? ⟨b, o, none⟩) :=
  ⟨fun b o h => hb.cell (p := ⟨b, o, none⟩) h, fun b o h => hb.frozen (p := ⟨b, o, none⟩) h⟩
/-- each text is no longer than memory may hold -/
def Slim (fs : List DF) : Prop := ∀ f ∈ fs, f.n.length ≤ 140737488355328 ∧ f.s.length ≤ 140737488355328 ∧ f.t.length ≤ 140737488355328
theorem dnamed (n : List UInt8) (h : n.length ≤ 140737488355328) (w : World) :
    Calls Try.prog 30 #[.string ⟨n.toArray⟩] w fun e w' => e = .returned (.bool (namedB n)) ∧ w' = w :=
  named_any ⟨n.toArray⟩ w (by have : (ByteArray.mk n.toArray).size = n.length := rfl; unfold maxLen; omega)

set_option maxHeartbeats 1000000 in
theorem dgood_none (a : Option Addr) (cap : Nat) (w : World) :
    Calls Try.prog 13 #[.agg #[.slice a 0 cap]] w fun e w' => e = .returned (.bool true) ∧ Below w.heap.size w w' := by
  go_enter Try.func13, Try.ntmps13
  go_wp2_with fail
  go_loopg [12] 1 (fun _ s12 wr => s12 = .int .i64 0 ∧ Hid (Below w.heap.size w wr))
  case atStart => exact ⟨rfl, hide ((Below.refl _ _).alloc (Nat.le_refl _) _)⟩
  case round =>
    obtain ⟨rfl, hB⟩ := hrel
    go_wp2_with fail
    go_ret
    exact ⟨rfl, unhide hB⟩

set_option maxHeartbeats 1000000 in
theorem dgood_long (b off cap n : Nat) (hn : 16 < n) (w : World) :
    Calls Try.prog 13 #[.agg #[.slice (some ⟨b, off, none⟩) n cap]] w fun e w' => e = .returned (.bool false) ∧ Below w.heap.size w w' := by
  go_enter Try.func13, Try.ntmps13
  go_wp2_with fail
  go_ret
  exact ⟨rfl, (Below.refl _ _).alloc (Nat.le_refl _) _⟩

set_option maxHeartbeats 2000000 in
theorem dgood_some (b off cap : Nat) (fs : List DF) (w : World) (hs : Slim fs) (hl : fs.length ≤ 16) (hb : b < w.heap.size) (h : RowAt w b off (cellsF fs)) :
    Calls Try.prog 13 #[.agg #[.slice (some ⟨b, off, none⟩) fs.length cap]] w fun e w' => e = .returned (.bool (goodD fs)) ∧ Below w.heap.size w w' := by
  have H := hide h
  have HS := hide hs
  have NO := hide (fun (k : Nat) (f : DF) => @bad_file fs k f)
  have NR := hide (fun (k : Nat) (f g : DF) => @bad_order fs k f g)
  have YES := hide (good_of_okTo hl)
  have Z := hide (okTo_zero fs)
  have SU := hide (fun (k : Nat) (f : DF) (h : OkTo fs k) => okTo_succ (f := f) h)
  have hb0 : b ≠ w.heap.size := by omega
  clear h hs
  generalize goodD fs = G at NO NR YES ⊢
  go_enter Try.func13, Try.ntmps13
  go_wp2_with fail
  go_loopg [12] fs.length (fun kx s12 wr => ∃ k : Nat, s12 = .int .i64 k ∧ k ≤ fs.length ∧ fs.length - k ≤ kx ∧ Hid (Below w.heap.size w wr ∧ w.heap.size < wr.heap.size ∧ wr.cell? ⟨w.heap.size, 0, none⟩ = some (.slice (some ⟨b, off, none⟩) fs.length cap)) ∧ Hid (OkTo fs k))
  case atStart => exact ⟨0, rfl, Nat.zero_le _, by omega, hide ⟨(Below.refl _ _).alloc (Nat.le_refl _) _, by simp, by simp⟩, Z⟩
  case round =>
    obtain ⟨k, rfl, hk, hg, hB, hO⟩ := hrel
    by_cases hlt : k < fs.length
    · obtain ⟨f, hf⟩ : ∃ f, fs[k]? = some f := ⟨_, List.getElem?_eq_getElem hlt⟩
      have HF := hide hf
      have r := (unhide H).kept (unhide hB).1 hb
      have e0 := r.c0 hf
      have e1 := r.c1 hf
      have e2 := r.c2 hf
      have hsl := unhide HS f (List.mem_of_getElem? hf)
      have hbw : b < wr.heap.size := Nat.lt_of_lt_of_le hb (unhide hB).1.size
      have h00 := (unhide hB).2.2
      clear hf r
      cases hn : namedB f.n with
      | false =>
        have HN := hide hn
        have CN := fun W => dnamed f.n hsl.1 W
        rw [hn] at CN
        clear hn
        go_wp2_with fail
        refine (CN _).mono ?_
        rintro e w1 ⟨rfl, rfl⟩
        clear CN
        go_wp2_with fail
        go_ret
        exact ⟨ret_bool (unhide NO k f (unhide HF) (fileOk_short (unhide HN))).symm, (unhide hB).1.alloc (by have := (unhide hB).1.size; omega) _⟩
      | true =>
        have HN := hide hn
        have CN := fun W => dnamed f.n hsl.1 W
        rw [hn] at CN
        clear hn
        have HL := hide hsl
        have hsum : f.s.length + f.t.length ≤ 9223372036854775807 := by omega
        have CS := fun W => dsize_any f W hsum
        obtain ⟨L, hL⟩ : ∃ L, f.s.length + f.t.length = L := ⟨_, rfl⟩
        rw [hL] at CS
        have HL2 := hide hL
        have hLb : L ≤ 9223372036854775807 := by omega
        clear hsl hsum hL
        go_wp2_with fail
        refine (CN _).mono ?_
        rintro e w1 ⟨rfl, rfl⟩
        clear CN
        by_cases hbig : L ≤ 1048576
        · have hok := fileOk_yes (unhide HN) (by rw [unhide HL2]; exact hbig)
          go_wp2_with fail
          refine (CS _).mono ?_
          rintro e w2 ⟨rfl, hb2⟩
          clear CS
          obtain ⟨hc, hf⟩ := bcell hb2
          have hB2 : Below w.heap.size w w2 := (unhide hB).1.trans (box_then hb2 |>.mono (unhide hB).1.size)
          have h01 : w2.cell? ⟨w.heap.size, 0, none⟩ = some (.slice (some ⟨b, off, none⟩) fs.length cap) := by
            rw [hc _ _ (by have := (unhide hB).2.1; simp; omega), ((Below.refl wr.heap.size wr).alloc (Nat.le_refl _) _).cell (p := ⟨w.heap.size, 0, none⟩) (unhide hB).2.1]; exact h00
          have hz : w2.cell? ⟨wr.heap.size, 0, none⟩ = some (.string ⟨f.n.toArray⟩) := by
            rw [hc _ _ (by simp)]; simp
          have hlt2 : w.heap.size < w2.heap.size := by have := hb2.size; have := (unhide hB).2.1; simp at *; omega
          clear hc hf hb2 h00 e0 e1 e2
          rcases Nat.eq_zero_or_pos k with hk0 | hk0
          · subst hk0
            have OK2 := hide (unhide SU 0 f (unhide hO) (unhide HF) hok (fun g h => absurd h (Nat.lt_irrefl 0)))
            go_wp2_with fail
            go_region
            go_wp2_with fail
            go_roundg (fs.length - 1)
            case measure => omega
            case rel => exact ⟨1, rfl, by omega, Nat.le_refl _, hide ⟨hB2.drew, hlt2, h01⟩, OK2⟩
          · obtain ⟨m, rfl⟩ : ∃ m, k = m + 1 := ⟨k - 1, by omega⟩
            obtain ⟨g, hg⟩ : ∃ g, fs[m]? = some g := ⟨_, List.getElem?_eq_getElem (by omega)⟩
            have r := (unhide H).kept hB2 hb
            have e0 := r.c0 hg
            have HG := hide hg
            clear r hg
            have hm1 : (m : Int) < (fs.length : Int) := by omega
            cases hbl : bl g.n f.n with
            | true =>
              have OK2 := hide (unhide SU (m + 1) f (unhide hO) (unhide HF) hok (fun g' _ h => by
                rw [Nat.add_sub_cancel, unhide HG] at h
                cases h
                exact hbl))
              have hbl' : Op.bytesLess g.n f.n = true := hbl
              clear hbl
              go_wp2_with fail
              go_region
              go_wp2_with fail
              go_roundg (fs.length - (m + 1 + 1))
              case measure => omega
              case rel => exact ⟨m + 1 + 1, rfl, by omega, Nat.le_refl _, hide ⟨hB2.drew, hlt2, h01⟩, OK2⟩
            | false =>
              have hbl' : Op.bytesLess g.n f.n = false := hbl
              have GF := (unhide NR (m + 1) f g (unhide HF) (by simpa using unhide HG) (by omega) hbl).symm
              have HGF := hide GF
              clear hbl GF
              go_wp2_with fail
              go_region
              go_wp2_with fail
              go_ret
              exact ⟨ret_bool (unhide HGF), hB2.drew⟩
        · go_wp2_with fail
          refine (CS _).mono ?_
          rintro e w2 ⟨rfl, hb2⟩
          have hB2 : Below w.heap.size w w2 := (unhide hB).1.trans (box_then hb2 |>.mono (unhide hB).1.size)
          clear CS hb2
          go_wp2_with fail
          go_ret
          exact ⟨ret_bool (unhide NO k f (unhide HF) (fileOk_long (by rw [unhide HL2]; omega))).symm, hB2⟩
    · have hkk : k = fs.length := by omega
      subst hkk
      go_wp2_with fail
      go_ret
      exact ⟨ret_bool (unhide YES (unhide hO)).symm, (unhide hB).1⟩

theorem goodD_nil : goodD [] = true := goodD_true.2 ⟨by decide, by simp, List.Pairwise.nil⟩
theorem dgood_any (v : Value) (fs : List DF) (w : World) (hv : DiskV w v fs) (hs : Slim fs) :
    Calls Try.prog 13 #[.agg #[v]] w fun e w' => e = .returned (.bool (goodD fs)) ∧ Below w.heap.size w w' := by
  rcases hv with ⟨a, cap, rfl, rfl, _⟩ | ⟨b, off, cap, rfl, _, _, hb, _, hr⟩
  · rw [goodD_nil]; exact dgood_none a cap w
  · by_cases hl : fs.length ≤ 16
    · exact dgood_some b off cap fs w hs hl hb hr
    · rw [bad_len (by omega)]; exact dgood_long b off cap fs.length (by omega) w
end Go.Proofs.Ytbadhnmljlmefaa
