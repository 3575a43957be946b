/-
  What wal.Scan answers, over what wire.Decode does: the walk.
  A log on a disk, as plain lists: what is recovered, what is kept. No walk is here.
  What wire.counted and wire.formed answer, for every transaction: the walks.
  What wire.Good answers, for every transaction: the walk.
  What wire.Number answers, for numbers from 0 on and up to eight bytes: the walk.
  What wire.Sum answers, for every text: the walk.
  What wire.body and wire.Encode answer: the walks.
  What wal.Append answers: the walks.
  What wal.Recover answers: the walks.
-/
import Derived.Test.YtbkndjhogaloiaaGreatDoorSGJ
import Derived.Test.YtbkndjhogaloiaaGreatDoorSGA
import Derived.Test.YtbkndjhogaloiaaGreatDoorSGE
import Derived.Test.YtbkndjhogaloiaaGreatDoorRows
import Derived.Laws.MakeOwn
import Derived.Laws.IdiomStrings
import Derived.OwnWalk
import Derived.WalkKit
import Derived.WalkSpells
import Derived.WalkLawsBesides
import Derived.Lib.QuietBelow
import Derived.BigQuiet
namespace Go.Proofs.YtbkndjhogaloiaaGreatDoor
open Go.RowKit

/- a transaction more at the end of a row of the call's own -/
theorem app_row {W : World} {B k c : Nat} {a : Option Addr} {ts : List WTxn} (h : OwnL W B (.slice a k c) ts) (hk : ts.length = k) (O : Obj) (V : World) (e : V = W.alloc O) : V.ownsRow B 47 7 (.slice a k c) k (cellsT ts) := by
  subst e
  have := h.next ((Below.refl _ _).alloc (Nat.le_refl _) O)
  unfold OwnL at this
  rwa [hk] at this
theorem wapp_new (W : World) (t : WTxn) (j : Nat) (u : Value) (h : (tcells t)[j]? = some u) : (W.alloc (.cells #[.int .i64 t.z, .int .i64 t.o, .int .i64 t.s, .string ⟨t.p.toArray⟩, .string ⟨t.d.toArray⟩, .int .i64 t.v, .int .i64 t.w] 47)).cell? ((⟨W.heap.size, 0, none⟩ : Addr).add j) = some u := by
  rw [Addr.add_lit]
  show World.cell? _ ⟨W.heap.size, 0 + j, none⟩ = _
  rw [Nat.zero_add]
  have e := heap_alloc_new W (.cells #[.int .i64 t.z, .int .i64 t.o, .int .i64 t.s, .string ⟨t.p.toArray⟩, .string ⟨t.d.toArray⟩, .int .i64 t.v, .int .i64 t.w] 47)
  simp only [World.cell?, e]
  have : (#[.int .i64 t.z, .int .i64 t.o, .int .i64 t.s, .string ⟨t.p.toArray⟩, .string ⟨t.d.toArray⟩, .int .i64 t.v, .int .i64 t.w] : Array Value)[j]? = (tcells t)[j]? := by simp [tcells]
  rw [this, h]
  rfl
theorem app_done {w W V : World} {B k c : Nat} {a : Option Addr} {ts : List WTxn} {t : WTxn} {O : Obj} {v' : Value} (hb : Below w.heap.size w W) (h : OwnL W B (.slice a k c) ts) (hB : w.heap.size ≤ B) (hk : ts.length = k)
    (hown : V.ownsRow B 47 7 v' (k + 1) (cellsT ts ++ tcells t)) (hg : (W.alloc O).grownBy V (Value.slice a k c).ownBlock) :
    ∃ a' c', v' = .slice a' (k + 1) c' ∧ OwnL V B (.slice a' (k + 1) c') (ts ++ [t]) ∧ Below w.heap.size w V := by
  subst hk
  have ho := OwnL.more hown
  obtain ⟨a', c', rfl⟩ := ownl_slice ho
  rw [List.length_append] at ho
  refine ⟨a', c', by rw [List.length_append]; rfl, ho, ?_⟩
  have h1 : Below w.heap.size w (W.alloc O) := hb.alloc hb.size O
  exact h1.grown hg h1.size fun q e => Nat.le_trans hB (ownl_block h q e).1

/-- what wire.Decode does -/
def DecOk : Prop := ∀ (s : List UInt8) (w : World), s.length ≤ 140737488355328 →
    Calls Tryz.prog 67 #[.string ⟨s.toArray⟩] w fun e w' => e = .returned (.tuple #[txnV (decT s), .int .i64 (decN s), .int .i64 (decE s)]) ∧ Below w.heap.size w w'

theorem scan_at {s r : List UInt8} {ts : List WTxn} (S : Scan s ts r) (k : Nat) : s.drop (recsL (ts.take k)).length = recsL (ts.drop k) ++ r ∧ (recsL (ts.take k)).length ≤ s.length := by
  have e : s = recsL (ts.take k) ++ (recsL (ts.drop k) ++ r) := by rw [← List.append_assoc, ← recsL_append, List.take_append_drop]; exact S.eq
  generalize recsL (ts.take k) = X at *
  subst e
  simp
theorem drop_more1 {ts : List WTxn} {k : Nat} {t : WTxn} (h : ts[k]? = some t) : ts.drop k = t :: ts.drop (k + 1) := by
  obtain ⟨hk, rfl⟩ := List.getElem?_eq_some_iff.1 h
  exact List.drop_eq_getElem_cons hk
theorem logs_at {ts : List WTxn} (L : Logs ts) {k : Nat} {t : WTxn} (h : ts[k]? = some t) : gdE t = 0 ∧ follB (ts.take k) t = true := by
  have e : ts = ts.take k ++ t :: ts.drop (k + 1) := by rw [← drop_more1 h, List.take_append_drop]
  rw [e] at L
  exact L.at

theorem ret_vn {v : Value} {i j : Nat} (h : i = j) : Ending.returned (.tuple #[v, .int .i64 i]) = .returned (.tuple #[v, .int .i64 j]) := by rw [h]

set_option maxRecDepth 10000 in
set_option maxHeartbeats 2000000 in
theorem scan_of (CD : DecOk) (s r : List UInt8) (ts : List WTxn) (w : World) (S : Scan s ts r) (hs : s.length ≤ 1048576) :
    Calls Tryz.prog 46 #[.string ⟨s.toArray⟩] w fun e w' => ∃ v, e = .returned (.tuple #[v, .int .i64 ((recsL ts).length : Nat)]) ∧ OwnL w' w.heap.size v ts ∧ Below w.heap.size w w' := by
  obtain ⟨i0, hi0, hz0, hz1, hz2⟩ := info_txn
  have hzs : (ByteArray.mk s.toArray).size = s.length := Lib.size_eq ⟨s.toArray⟩
  have hts : ts.length * 31 ≤ 1048576 := by have := recsL_ge ts; have := S.len; omega
  have HS := hide S
  have HCD := hide CD
  clear S CD
  go_enter Tryz.func46, Tryz.ntmps46
  go_wp2_with fail
  go_loopg [4, 5] ts.length (fun kx s4 s5 wr => ∃ (k N : Nat) (a : Option Addr) (c : Nat), s4 = .slice a k c ∧ s5 = .int .i64 N ∧ k ≤ ts.length ∧ ts.length - k ≤ kx ∧ Hid ((recsL (ts.take k)).length = N) ∧ Hid (OwnL wr w.heap.size (.slice a k c) (ts.take k) ∧ Below w.heap.size w wr))
  case atStart => exact ⟨0, 0, none, 0, rfl, rfl, Nat.zero_le _, by omega, hide rfl, hide ⟨OwnL.nil _ _, Below.refl _ _⟩⟩
  case round =>
    obtain ⟨k, N, a, c, rfl, rfl, hk, hkx, HN, hI⟩ := hrel
    have h1 := scan_at (unhide HS) k
    rw [unhide HN] at h1
    obtain ⟨hd, hNs⟩ := h1
    have hx : (ByteArray.mk s.toArray).extract N s.length = ⟨(s.drop N).toArray⟩ := ex_back s N
    have hMl : (ts.take k).length = k := by simp; omega
    by_cases hlt : k < ts.length
    · obtain ⟨t, ht⟩ : ∃ t, ts[k]? = some t := ⟨_, List.getElem?_eq_getElem hlt⟩
      have hgf := logs_at (unhide HS).log ht
      rw [drop_more1 ht, recsL, List.append_assoc] at hd
      have C := fun W => unhide HCD (s.drop N) W (by rw [List.length_drop]; omega)
      have hdr := dec_rec hgf.1 (recsL (ts.drop (k + 1)) ++ r)
      rw [← hd] at hdr
      rw [hdr.1, hdr.2.1, hdr.2.2] at C
      have hrl := recL_le hgf.1
      have hNN := scan_at (unhide HS) (k + 1)
      rw [take_more1 ht, recsL_snoc, List.length_append, unhide HN] at hNN
      have hNL := hNN.2
      have CF := fun v W (h : LogV W v (ts.take k)) => follows_any t v (ts.take k) W h
      rw [hgf.2] at CF
      have HT := hide (take_more1 ht)
      have HM := hide hMl
      clear hd hdr hgf hNN hMl ht
      obtain ⟨Y, hY⟩ : ∃ Y, s.drop N = Y := ⟨_, rfl⟩
      rw [hY] at hx C
      obtain ⟨L, hL⟩ : ∃ L, (recL t).length = L := ⟨_, rfl⟩
      rw [hL] at C hNL hrl
      have HL := hide hL
      obtain ⟨M, hM⟩ : ∃ M, ts.take k = M := ⟨_, rfl⟩
      rw [hM] at hI HT HM CF HN
      have HCF := hide CF
      clear hY hL hM CF
      obtain ⟨z, o, s1, p, d, y, u⟩ := t
      unfold txnV at C HCF
      go_wp2_with fail
      refine (C _).mono ?_
      rintro e w1 ⟨rfl, hb1⟩
      have hal := (Below.refl w1.heap.size w1).alloc (Nat.le_refl _) (.cells #[.int .i64 z, .int .i64 o, .int .i64 s1, .string ⟨p.toArray⟩, .string ⟨d.toArray⟩, .int .i64 y, .int .i64 u] 47)
      have HB1 := hide (below_next2 (below_next2 (unhide hI).2 hb1) hal)
      have HO1 := hide (((unhide hI).1.next hb1).next hal)
      have T1 := hide (TAt.new w1 ⟨z, o, s1, p, d, y, u⟩)
      clear C hb1 hal hI
      go_wp2_with fail
      generalize w1.alloc (.cells #[.int .i64 z, .int .i64 o, .int .i64 s1, .string ⟨p.toArray⟩, .string ⟨d.toArray⟩, .int .i64 y, .int .i64 u] 47) = W1 at *
      refine (unhide HCF _ _ (unhide HO1).log).mono ?_
      rintro e w3 ⟨rfl, hb3⟩
      have HB3 := hide (below_next2 (unhide HB1) hb3)
      have HO3 := hide ((unhide HO1).next hb3)
      have T3 := (unhide T1).next hb3
      have c0 := T3.c0
      have c1 := T3.c1
      have c2 := T3.c2
      have c3 := T3.c3
      have c4 := T3.c4
      have c5 := T3.c5
      have c6 := T3.c6
      clear hb3 HB1 HO1 T1 T3 HCF
      have HRW := hide (app_row (unhide HO3) (unhide HM))
      have HC2 := hide (wapp_new w3 ⟨z, o, s1, p, d, y, u⟩)
      have h4 : Hid (k + 1 ≤ maxLen) := by unfold Hid; simp only [maxLen]; omega
      have h5 : Hid ((k + 1) * 72 ≤ 140737488355328) := by unfold Hid; omega
      have h6 : Hid (∀ O1, w.heap.size ≤ (w3.alloc O1).heap.size) := fun O1 => by have := (unhide HB3).size; simp; omega
      go_wp2_with (at_builtin; refine wpList_append_own _ rfl _ _ 22 rfl w.heap.size 47 i0 _ 7 72 Tryz.underlying22 hi0 hz0 hz1 hz2 rfl (by decide) _ k (cellsT M) rfl (unhide HRW _ _ rfl) ⟨w3.heap.size, 0, none⟩ 1 1 (tcells ⟨z, o, s1, p, d, y, u⟩) rfl rfl (unhide HC2) (tcells_one _) (unhide h4) (unhide h5) (unhide h6 _) ?_)
      intro v' w5 hown hgrow _
      obtain ⟨a5, cc5, rfl, ho5, hb5⟩ := app_done (unhide HB3) (unhide HO3) (Nat.le_refl _) (unhide HM) hown hgrow
      have HZ := hide (And.intro ho5 hb5)
      clear hown hgrow ho5 hb5 HRW HC2 h4 h5 h6 HB3 HO3 c0 c1 c2 c3 c4 c5 c6
      go_wp2_with fail
      go_roundg (ts.length - (k + 1))
      case measure => omega
      case rel => exact ⟨k + 1, N + L, a5, cc5, rfl, by simp, by omega, Nat.le_refl _, hide (by rw [unhide HT, recsL_snoc, List.length_append, unhide HN, unhide HL]), hide (by rw [unhide HT]; exact unhide HZ)⟩
    · obtain rfl : k = ts.length := by omega
      rw [List.drop_length, recsL, List.nil_append] at hd
      have C := fun W => unhide HCD (s.drop N) W (by rw [List.length_drop]; omega)
      rw [hd] at C hx
      have hst := (unhide HS).stop
      have HI := hide (by have := unhide hI; rw [List.take_length] at this; exact this : OwnL wr w.heap.size (.slice a ts.length c) ts ∧ Below w.heap.size w wr)
      have HN2 := hide (by have := unhide HN; rw [List.take_length] at this; exact this : (recsL ts).length = N)
      clear hd hMl hlt hI
      by_cases he : decE r = 0
      · have hf : follB ts (decT r) = false := by
          rcases hst with h | h
          · exact absurd he h
          · exact h
        have CF := fun v W (h : LogV W v ts) => follows_any (decT r) v ts W h
        rw [hf] at CF
        rw [he] at C
        have HCF := hide CF
        clear hst hf CF
        obtain ⟨D, hD⟩ : ∃ D, decN r = D := ⟨_, rfl⟩
        rw [hD] at C
        clear hD he
        obtain ⟨t, ht⟩ : ∃ t, decT r = t := ⟨_, rfl⟩
        rw [ht] at C HCF
        clear ht
        obtain ⟨z, o, s1, p, d, y, u⟩ := t
        unfold txnV at C HCF
        go_wp2_with fail
        refine (C _).mono ?_
        rintro e w1 ⟨rfl, hb1⟩
        have hal := (Below.refl w1.heap.size w1).alloc (Nat.le_refl _) (.cells #[.int .i64 z, .int .i64 o, .int .i64 s1, .string ⟨p.toArray⟩, .string ⟨d.toArray⟩, .int .i64 y, .int .i64 u] 47)
        have HB1 := hide (below_next2 (below_next2 (unhide HI).2 hb1) hal)
        have HO1 := hide (((unhide HI).1.next hb1).next hal)
        clear C hb1 hal HI
        go_wp2_with fail
        generalize w1.alloc (.cells #[.int .i64 z, .int .i64 o, .int .i64 s1, .string ⟨p.toArray⟩, .string ⟨d.toArray⟩, .int .i64 y, .int .i64 u] 47) = W1 at *
        refine (unhide HCF _ _ (unhide HO1).log).mono ?_
        rintro e w3 ⟨rfl, hb3⟩
        have HB3 := hide (below_next2 (unhide HB1) hb3)
        have HO3 := hide ((unhide HO1).next hb3)
        clear hb3 HB1 HO1 HCF
        go_wp2_with fail
        go_ret2
        exact ⟨.slice a ts.length c, ret_vn (unhide HN2).symm, unhide HO3, unhide HB3⟩
      · have hne : (decE r != 0) = true := by simpa using he
        clear hst he
        obtain ⟨D, hD⟩ : ∃ D, decN r = D := ⟨_, rfl⟩
        rw [hD] at C
        clear hD
        obtain ⟨E, hE⟩ : ∃ E, decE r = E := ⟨_, rfl⟩
        rw [hE] at C hne
        clear hE
        obtain ⟨t, ht⟩ : ∃ t, decT r = t := ⟨_, rfl⟩
        rw [ht] at C
        clear ht
        obtain ⟨z, o, s1, p, d, y, u⟩ := t
        unfold txnV at C
        go_wp2_with fail
        refine (C _).mono ?_
        rintro e w1 ⟨rfl, hb1⟩
        have hal := (Below.refl w1.heap.size w1).alloc (Nat.le_refl _) (.cells #[.int .i64 z, .int .i64 o, .int .i64 s1, .string ⟨p.toArray⟩, .string ⟨d.toArray⟩, .int .i64 y, .int .i64 u] 47)
        have HB1 := hide (below_next2 (below_next2 (unhide HI).2 hb1) hal)
        have HO1 := hide (((unhide HI).1.next hb1).next hal)
        clear C hb1 hal HI
        go_wp2_with fail
        go_ret2
        exact ⟨.slice a ts.length c, ret_vn (unhide HN2).symm, unhide HO1, unhide HB1⟩
end Go.Proofs.YtbkndjhogaloiaaGreatDoor

namespace Go.Proofs.YtbkndjhogaloiaaGreatDoor
open Go.RowKit

def logN : List UInt8 := [108, 111, 103]
theorem named_log : namedB logN = true := by decide
def logF (ts : List WTxn) : DF := ⟨logN, recsL ts, []⟩
structure RecYes (fs : List DF) (ts : List WTxn) (A B : List DF) : Prop where
  good : GoodD fs
  log : Logs ts
  old : (fs.length < 16 ∧ Gap fs A B logN ∧ ts = []) ∨ ∃ f r, There fs A f B logN ∧ Scan (f.s ++ f.t) ts r
theorem RecYes.short {fs A B : List DF} {ts : List WTxn} (h : RecYes fs ts A B) : (recsL ts).length ≤ 1048576 := by
  rcases h.old with ⟨_, _, rfl⟩ | ⟨f, r, T, S⟩
  · simp [recsL]
  · have h1 := S.len
    have h2 := fileOk_len (T.ok h.good)
    rw [List.length_append] at h1
    omega
theorem RecYes.few {fs A B : List DF} {ts : List WTxn} (h : RecYes fs ts A B) : ts.length ≤ 40000 := by
  have h1 := h.short
  have h2 := recsL_ge ts
  omega
theorem RecYes.there {fs A B : List DF} {ts : List WTxn} (h : RecYes fs ts A B) (us : List WTxn) : There (A ++ logF us :: B) A (logF us) B logN := by
  rcases h.old with ⟨_, G, _⟩ | ⟨f, r, T, _⟩
  · exact G.ins rfl
  · exact T.set rfl
theorem RecYes.after {fs A B : List DF} {ts : List WTxn} (h : RecYes fs ts A B) {us : List WTxn} (hu : (recsL us).length ≤ 1048576) : GoodD (A ++ logF us :: B) := by
  have hl : (logF us).s.length + (logF us).t.length ≤ 1048576 := by simp [logF]; exact hu
  rcases h.old with ⟨h16, G, _⟩ | ⟨f, r, T, _⟩
  · exact good_ins h.good G named_log h16 rfl hl
  · have g := h.good
    rw [T.eq] at g
    exact good_set g T.nm.symm hl
/- a disk with the log alone -/
theorem gap_none (name : List UInt8) : Gap [] [] [] name := ⟨rfl, by simp, by simp⟩
theorem good_none : GoodD [] := ⟨by simp, by simp, List.Pairwise.nil⟩
theorem good_one {s t : List UInt8} (h : s.length + t.length ≤ 1048576) : GoodD [⟨logN, s, t⟩] :=
  good_ins good_none (gap_none logN) named_log (by simp) (f' := ⟨logN, s, t⟩) rfl h
theorem there_one (s t : List UInt8) : There [⟨logN, s, t⟩] [] ⟨logN, s, t⟩ [] logN := (gap_none logN).ins (f' := ⟨logN, s, t⟩) rfl
theorem rec_one {s t r : List UInt8} {ts : List WTxn} (h : s.length + t.length ≤ 1048576) (S : Scan (s ++ t) ts r) : RecYes [⟨logN, s, t⟩] ts [] [] :=
  ⟨good_one h, S.log, .inr ⟨_, r, there_one s t, S⟩⟩
/- what is kept -/
def keepL (z : Int) (ts : List WTxn) : List WTxn := ts.takeWhile fun t => decide (t.z ≤ z)
theorem keepL_split (z : Int) (ts : List WTxn) : ∃ b, ts = keepL z ts ++ b := ⟨ts.dropWhile fun t => decide (t.z ≤ z), (List.takeWhile_append_dropWhile ..).symm⟩
theorem keepL_take (z : Int) (ts : List WTxn) : (recsL ts).take (recsL (keepL z ts)).length = recsL (keepL z ts) ∧ (recsL (keepL z ts)).length ≤ (recsL ts).length := by
  obtain ⟨b, e⟩ := keepL_split z ts
  generalize keepL z ts = a at *
  subst e
  rw [recsL_append]
  simp
end Go.Proofs.YtbkndjhogaloiaaGreatDoor

namespace Go.Proofs.YtbkndjhogaloiaaGreatDoor
open Go.RowKit

theorem bcell {W w1 : World} (hb : Below W.heap.size W w1) : (∀ b o, b < W.heap.size → w1.cell? ⟨b, o, none⟩ = W.cell? ⟨b, o, none⟩) ∧ (∀ b o, b < W.heap.size → w1.frozen? ⟨b, o, none⟩ = W.frozen? ⟨b, o, none⟩) :=
  ⟨fun b o h => hb.cell (p := ⟨b, o, none⟩) h, fun b o h => hb.frozen (p := ⟨b, o, none⟩) h⟩

set_option maxRecDepth 10000 in
set_option maxHeartbeats 400000 in
theorem counted_any (n k : Int) (w : World) :
    Calls Tryz.prog 50 #[.int .i64 n, .int .i64 k] w fun e w' => e = .returned (.bool (cntB n k)) ∧ w' = w := by
  go_enter Tryz.func50, Tryz.ntmps50
  go_wp2
  all_goals go_ret
  all_goals exact ⟨zret_bool (by rw [Bool.eq_iff_iff, cntB_iff]; simp; try omega), rfl⟩

theorem box_then {w : World} {o : Obj} {w1 : World} (h : Below (w.alloc o).heap.size (w.alloc o) w1) : Below w.heap.size w w1 :=
  ((Below.refl _ _).alloc (Nat.le_refl _) _).trans (h.mono (by simp))
theorem op_cases {o : Int} (h : opB o = true) : o = 1 ∨ o = 2 ∨ o = 3 ∨ o = 4 ∨ o = 5 := by have := opB_iff.1 h; omega

theorem fm_1 (z s : Int) (p d : List UInt8) (v u : Int) : fmB ⟨z, 1, s, p, d, v, u⟩ = (p == [] && d == [] && v == 0 && u == 0) := rfl
theorem fm_2 (z s : Int) (p d : List UInt8) (v u : Int) : fmB ⟨z, 2, s, p, d, v, u⟩ = (p == [] && d == [] && v == 0 && u == 0) := rfl
theorem fm_3 (z s : Int) (p d : List UInt8) (v u : Int) : fmB ⟨z, 3, s, p, d, v, u⟩ = (goodB p && !(p == [47]) && v == 0) := rfl
theorem fm_4 (z s : Int) (p d : List UInt8) (v u : Int) : fmB ⟨z, 4, s, p, d, v, u⟩ = (goodB p && !(p == [47]) && d == [] && v == 0 && u == 0) := rfl
theorem fm_5 (z s : Int) (p d : List UInt8) (v u : Int) : fmB ⟨z, 5, s, p, d, v, u⟩ = (goodB p && u == 0) := rfl

set_option maxRecDepth 10000 in
set_option maxHeartbeats 1000000 in
theorem formed_1 (z s : Int) (p d : List UInt8) (v u : Int) (w : World) :
    Calls Tryz.prog 51 #[.agg #[.int .i64 z, .int .i64 1, .int .i64 s, .string ⟨p.toArray⟩, .string ⟨d.toArray⟩, .int .i64 v, .int .i64 u]] w fun e w' => e = .returned (.bool (fmB ⟨z, 1, s, p, d, v, u⟩)) ∧ Below w.heap.size w w' := by
  rw [fm_1]
  cases hg : goodB p
  all_goals
    have Hg := hide hg
    clear hg
    go_enter Tryz.func51, Tryz.ntmps51
    go_wp2_with fail
    refine (good_any _ _).mono ?_
    rintro e w1 ⟨rfl, hb1⟩
    have hbz := box_then hb1
    obtain ⟨hc, hf⟩ := bcell hb1
    rw [show (ByteArray.mk p.toArray).data.toList = p from rfl, unhide Hg]
    go_wp2_with fail
    all_goals go_ret
    all_goals (clear hc hf hb1)
    all_goals (refine ⟨zret_bool ?_, hbz⟩; clear hbz Hg; simp [*])

set_option maxRecDepth 10000 in
set_option maxHeartbeats 1000000 in
theorem formed_2 (z s : Int) (p d : List UInt8) (v u : Int) (w : World) :
    Calls Tryz.prog 51 #[.agg #[.int .i64 z, .int .i64 2, .int .i64 s, .string ⟨p.toArray⟩, .string ⟨d.toArray⟩, .int .i64 v, .int .i64 u]] w fun e w' => e = .returned (.bool (fmB ⟨z, 2, s, p, d, v, u⟩)) ∧ Below w.heap.size w w' := by
  rw [fm_2]
  cases hg : goodB p
  all_goals
    have Hg := hide hg
    clear hg
    go_enter Tryz.func51, Tryz.ntmps51
    go_wp2_with fail
    refine (good_any _ _).mono ?_
    rintro e w1 ⟨rfl, hb1⟩
    have hbz := box_then hb1
    obtain ⟨hc, hf⟩ := bcell hb1
    rw [show (ByteArray.mk p.toArray).data.toList = p from rfl, unhide Hg]
    go_wp2_with fail
    all_goals go_ret
    all_goals (clear hc hf hb1)
    all_goals (refine ⟨zret_bool ?_, hbz⟩; clear hbz Hg; simp [*])

set_option maxRecDepth 10000 in
set_option maxHeartbeats 1000000 in
theorem formed_3 (z s : Int) (p d : List UInt8) (v u : Int) (w : World) :
    Calls Tryz.prog 51 #[.agg #[.int .i64 z, .int .i64 3, .int .i64 s, .string ⟨p.toArray⟩, .string ⟨d.toArray⟩, .int .i64 v, .int .i64 u]] w fun e w' => e = .returned (.bool (fmB ⟨z, 3, s, p, d, v, u⟩)) ∧ Below w.heap.size w w' := by
  rw [fm_3]
  cases hg : goodB p
  all_goals
    have Hg := hide hg
    clear hg
    go_enter Tryz.func51, Tryz.ntmps51
    go_wp2_with fail
    refine (good_any _ _).mono ?_
    rintro e w1 ⟨rfl, hb1⟩
    have hbz := box_then hb1
    obtain ⟨hc, hf⟩ := bcell hb1
    rw [show (ByteArray.mk p.toArray).data.toList = p from rfl, unhide Hg]
    go_wp2_with fail
    all_goals go_ret
    all_goals (clear hc hf hb1)
    all_goals (refine ⟨zret_bool ?_, hbz⟩; clear hbz Hg; simp [*])

set_option maxRecDepth 10000 in
set_option maxHeartbeats 1000000 in
theorem formed_4 (z s : Int) (p d : List UInt8) (v u : Int) (w : World) :
    Calls Tryz.prog 51 #[.agg #[.int .i64 z, .int .i64 4, .int .i64 s, .string ⟨p.toArray⟩, .string ⟨d.toArray⟩, .int .i64 v, .int .i64 u]] w fun e w' => e = .returned (.bool (fmB ⟨z, 4, s, p, d, v, u⟩)) ∧ Below w.heap.size w w' := by
  rw [fm_4]
  cases hg : goodB p
  all_goals
    have Hg := hide hg
    clear hg
    go_enter Tryz.func51, Tryz.ntmps51
    go_wp2_with fail
    refine (good_any _ _).mono ?_
    rintro e w1 ⟨rfl, hb1⟩
    have hbz := box_then hb1
    obtain ⟨hc, hf⟩ := bcell hb1
    rw [show (ByteArray.mk p.toArray).data.toList = p from rfl, unhide Hg]
    go_wp2_with fail
    all_goals go_ret
    all_goals (clear hc hf hb1)
    all_goals (refine ⟨zret_bool ?_, hbz⟩; clear hbz Hg; simp [*])

end Go.Proofs.YtbkndjhogaloiaaGreatDoor

namespace Go.Proofs.YtbkndjhogaloiaaGreatDoor
open Go.RowKit
set_option maxRecDepth 10000 in

set_option maxHeartbeats 1000000 in
theorem formed_5 (z s : Int) (p d : List UInt8) (v u : Int) (w : World) :
    Calls Tryz.prog 51 #[.agg #[.int .i64 z, .int .i64 5, .int .i64 s, .string ⟨p.toArray⟩, .string ⟨d.toArray⟩, .int .i64 v, .int .i64 u]] w fun e w' => e = .returned (.bool (fmB ⟨z, 5, s, p, d, v, u⟩)) ∧ Below w.heap.size w w' := by
  rw [fm_5]
  cases hg : goodB p
  all_goals
    have Hg := hide hg
    clear hg
    go_enter Tryz.func51, Tryz.ntmps51
    go_wp2_with fail
    refine (good_any _ _).mono ?_
    rintro e w1 ⟨rfl, hb1⟩
    have hbz := box_then hb1
    have hz1 : w.heap.size < w1.heap.size := by have := hb1.size; simp at this; omega
    obtain ⟨hc, hf⟩ := bcell hb1
    rw [show (ByteArray.mk p.toArray).data.toList = p from rfl, unhide Hg]
    go_wp2_with fail
    all_goals
      refine (good_any _ _).mono ?_
      rintro e w2 ⟨rfl, hb2⟩
      have hbz2 := below_next hbz hb2
      obtain ⟨hc2, hf2⟩ := bcell hb2
      rw [show (ByteArray.mk p.toArray).data.toList = p from rfl, unhide Hg]
      go_wp2_with fail
    all_goals go_ret
    all_goals (clear hc hf hb1 hc2 hf2 hb2 hbz)
    all_goals (refine ⟨zret_bool ?_, hbz2⟩; clear hbz2 Hg; simp [*])

theorem formed_any (t : WTxn) (w : World) (ht : opB t.o = true) :
    Calls Tryz.prog 51 #[txnV t] w fun e w' => e = .returned (.bool (fmB t)) ∧ Below w.heap.size w w' := by
  obtain ⟨z, o, s, p, d, v, u⟩ := t
  rcases op_cases ht with h | h | h | h | h <;> (replace h : o = _ := h; subst h)
  · exact formed_1 z s p d v u w
  · exact formed_2 z s p d v u w
  · exact formed_3 z s p d v u w
  · exact formed_4 z s p d v u w
  · exact formed_5 z s p d v u w

theorem opB_no {o : Int} (h : opB o = false) : o < 1 ∨ 5 < o := by
  by_cases h1 : 1 ≤ o ∧ o ≤ 5
  · rw [opB_iff.2 h1] at h; exact absurd h (by decide)
  · omega
theorem ret_gd {a b : Int} (h : a = b) : Ending.returned (.int .i64 a) = .returned (.int .i64 b) := by rw [h]

theorem num_no {t : WTxn} (h : zGood t.z = false ∨ cntB t.s 1 = false ∨ cntB t.v 0 = false ∨ cntB t.w 0 = false) : numB t = false := by
  rcases h with h | h | h | h <;> simp [numB, h]

set_option maxRecDepth 10000 in
set_option maxHeartbeats 2000000 in
theorem wgood_any (t : WTxn) (w : World) (hd : t.d.length ≤ 140737488355328) :
    Calls Tryz.prog 23 #[txnV t] w fun e w' => e = .returned (.int .i64 (gdE t)) ∧ Below w.heap.size w w' := by
  cases ho : opB t.o
  · have H := hide (gdE_kind ho)
    have hor := opB_no ho
    clear ho
    obtain ⟨z, o, s, p, d, v, u⟩ := t
    unfold txnV
    replace hor : o < 1 ∨ 5 < o := hor
    rcases hor with hor | hor
    all_goals
      go_enter Tryz.func23, Tryz.ntmps23
      go_wp2_with fail
      go_ret
      exact ⟨ret_gd (unhide H).symm, (Below.refl _ _).alloc (Nat.le_refl _) _⟩
  have hor := opB_iff.1 ho
  have ho1 := hor.1
  have ho2 := hor.2
  have Ho := hide ho
  clear ho hor
  cases hz : zGood t.z
  · have H := hide (gdE_range (unhide Ho) (num_no (.inl hz)))
    have Hz := hide hz
    clear hz
    · obtain ⟨z, o, s, p, d, v, u⟩ := t
      unfold txnV
      have hzd : (ByteArray.mk d.toArray).size = d.length := Lib.size_eq ⟨d.toArray⟩
      replace ho1 : 1 ≤ o := ho1
      replace ho2 : o ≤ 5 := ho2
      replace hd : d.length ≤ 140737488355328 := hd
      go_enter Tryz.func23, Tryz.ntmps23
      go_wp2_with fail
      refine (zgood_any _ _).mono ?_
      rintro e w1 ⟨rfl, rfl⟩
      rw [unhide Hz]
      go_wp2_with fail
      go_ret
      exact ⟨ret_gd (unhide H).symm, (Below.refl _ _).alloc (Nat.le_refl _) _⟩
  cases hs : cntB t.s 1
  · have H := hide (gdE_range (unhide Ho) (num_no (.inr (.inl hs))))
    have Hz := hide hz
    have Hs := hide hs
    clear hz hs
    · obtain ⟨z, o, s, p, d, v, u⟩ := t
      unfold txnV
      have hzd : (ByteArray.mk d.toArray).size = d.length := Lib.size_eq ⟨d.toArray⟩
      replace ho1 : 1 ≤ o := ho1
      replace ho2 : o ≤ 5 := ho2
      replace hd : d.length ≤ 140737488355328 := hd
      go_enter Tryz.func23, Tryz.ntmps23
      go_wp2_with fail
      refine (zgood_any _ _).mono ?_
      rintro e w1 ⟨rfl, rfl⟩
      rw [unhide Hz]
      go_wp2_with fail
      refine (counted_any _ _ _).mono ?_
      rintro e w1 ⟨rfl, rfl⟩
      rw [unhide Hs]
      go_wp2_with fail
      go_ret
      exact ⟨ret_gd (unhide H).symm, (Below.refl _ _).alloc (Nat.le_refl _) _⟩
  cases hv : cntB t.v 0
  · have H := hide (gdE_range (unhide Ho) (num_no (.inr (.inr (.inl hv)))))
    have Hz := hide hz
    have Hs := hide hs
    have Hv := hide hv
    clear hz hs hv
    · obtain ⟨z, o, s, p, d, v, u⟩ := t
      unfold txnV
      have hzd : (ByteArray.mk d.toArray).size = d.length := Lib.size_eq ⟨d.toArray⟩
      replace ho1 : 1 ≤ o := ho1
      replace ho2 : o ≤ 5 := ho2
      replace hd : d.length ≤ 140737488355328 := hd
      go_enter Tryz.func23, Tryz.ntmps23
      go_wp2_with fail
      refine (zgood_any _ _).mono ?_
      rintro e w1 ⟨rfl, rfl⟩
      rw [unhide Hz]
      go_wp2_with fail
      refine (counted_any _ _ _).mono ?_
      rintro e w1 ⟨rfl, rfl⟩
      rw [unhide Hs]
      go_wp2_with fail
      refine (counted_any _ _ _).mono ?_
      rintro e w1 ⟨rfl, rfl⟩
      rw [unhide Hv]
      go_wp2_with fail
      go_ret
      exact ⟨ret_gd (unhide H).symm, (Below.refl _ _).alloc (Nat.le_refl _) _⟩
  cases hu : cntB t.w 0
  · have H := hide (gdE_range (unhide Ho) (num_no (.inr (.inr (.inr hu)))))
    have Hz := hide hz
    have Hs := hide hs
    have Hv := hide hv
    have Hu := hide hu
    clear hz hs hv hu
    · obtain ⟨z, o, s, p, d, v, u⟩ := t
      unfold txnV
      have hzd : (ByteArray.mk d.toArray).size = d.length := Lib.size_eq ⟨d.toArray⟩
      replace ho1 : 1 ≤ o := ho1
      replace ho2 : o ≤ 5 := ho2
      replace hd : d.length ≤ 140737488355328 := hd
      go_enter Tryz.func23, Tryz.ntmps23
      go_wp2_with fail
      refine (zgood_any _ _).mono ?_
      rintro e w1 ⟨rfl, rfl⟩
      rw [unhide Hz]
      go_wp2_with fail
      refine (counted_any _ _ _).mono ?_
      rintro e w1 ⟨rfl, rfl⟩
      rw [unhide Hs]
      go_wp2_with fail
      refine (counted_any _ _ _).mono ?_
      rintro e w1 ⟨rfl, rfl⟩
      rw [unhide Hv]
      go_wp2_with fail
      refine (counted_any _ _ _).mono ?_
      rintro e w1 ⟨rfl, rfl⟩
      rw [unhide Hu]
      go_wp2_with fail
      go_ret
      exact ⟨ret_gd (unhide H).symm, (Below.refl _ _).alloc (Nat.le_refl _) _⟩
  have HN := hide (numB_iff.2 ⟨hz, hs, hv, hu⟩)
  have Hz := hide hz
  have Hs := hide hs
  have Hv := hide hv
  have Hu := hide hu
  clear hz hs hv hu
  by_cases hl : 256 < t.d.length
  · have H := hide (gdE_long (unhide Ho) (unhide HN) hl)
    · obtain ⟨z, o, s, p, d, v, u⟩ := t
      unfold txnV
      replace hl : 256 < d.length := hl
      have hzd : (ByteArray.mk d.toArray).size = d.length := Lib.size_eq ⟨d.toArray⟩
      replace ho1 : 1 ≤ o := ho1
      replace ho2 : o ≤ 5 := ho2
      replace hd : d.length ≤ 140737488355328 := hd
      go_enter Tryz.func23, Tryz.ntmps23
      go_wp2_with fail
      refine (zgood_any _ _).mono ?_
      rintro e w1 ⟨rfl, rfl⟩
      rw [unhide Hz]
      go_wp2_with fail
      refine (counted_any _ _ _).mono ?_
      rintro e w1 ⟨rfl, rfl⟩
      rw [unhide Hs]
      go_wp2_with fail
      refine (counted_any _ _ _).mono ?_
      rintro e w1 ⟨rfl, rfl⟩
      rw [unhide Hv]
      go_wp2_with fail
      refine (counted_any _ _ _).mono ?_
      rintro e w1 ⟨rfl, rfl⟩
      rw [unhide Hu]
      go_wp2_with fail
      go_ret
      exact ⟨ret_gd (unhide H).symm, (Below.refl _ _).alloc (Nat.le_refl _) _⟩
  cases hfm : fmB t
  · have H := hide (gdE_form (unhide Ho) (unhide HN) (by omega) hfm)
    have Hf := hide hfm
    clear hfm
    · obtain ⟨z, o, s, p, d, v, u⟩ := t
      unfold txnV
      replace hl : ¬ 256 < d.length := hl
      have hzd : (ByteArray.mk d.toArray).size = d.length := Lib.size_eq ⟨d.toArray⟩
      replace ho1 : 1 ≤ o := ho1
      replace ho2 : o ≤ 5 := ho2
      replace hd : d.length ≤ 140737488355328 := hd
      go_enter Tryz.func23, Tryz.ntmps23
      go_wp2_with fail
      refine (zgood_any _ _).mono ?_
      rintro e w1 ⟨rfl, rfl⟩
      rw [unhide Hz]
      go_wp2_with fail
      refine (counted_any _ _ _).mono ?_
      rintro e w1 ⟨rfl, rfl⟩
      rw [unhide Hs]
      go_wp2_with fail
      refine (counted_any _ _ _).mono ?_
      rintro e w1 ⟨rfl, rfl⟩
      rw [unhide Hv]
      go_wp2_with fail
      refine (counted_any _ _ _).mono ?_
      rintro e w1 ⟨rfl, rfl⟩
      rw [unhide Hu]
      go_wp2_with fail
      refine (formed_any ⟨z, o, s, p, d, v, u⟩ _ (unhide Ho)).mono ?_
      rintro e w2 ⟨rfl, hb2⟩
      have hbz := box_then hb2
      rw [unhide Hf]
      go_wp2_with fail
      go_ret
      exact ⟨ret_gd (unhide H).symm, hbz⟩
  · have H := hide (gdE_ok (unhide Ho) (unhide HN) (by omega) hfm)
    have Hf := hide hfm
    clear hfm
    · obtain ⟨z, o, s, p, d, v, u⟩ := t
      unfold txnV
      replace hl : ¬ 256 < d.length := hl
      have hzd : (ByteArray.mk d.toArray).size = d.length := Lib.size_eq ⟨d.toArray⟩
      replace ho1 : 1 ≤ o := ho1
      replace ho2 : o ≤ 5 := ho2
      replace hd : d.length ≤ 140737488355328 := hd
      go_enter Tryz.func23, Tryz.ntmps23
      go_wp2_with fail
      refine (zgood_any _ _).mono ?_
      rintro e w1 ⟨rfl, rfl⟩
      rw [unhide Hz]
      go_wp2_with fail
      refine (counted_any _ _ _).mono ?_
      rintro e w1 ⟨rfl, rfl⟩
      rw [unhide Hs]
      go_wp2_with fail
      refine (counted_any _ _ _).mono ?_
      rintro e w1 ⟨rfl, rfl⟩
      rw [unhide Hv]
      go_wp2_with fail
      refine (counted_any _ _ _).mono ?_
      rintro e w1 ⟨rfl, rfl⟩
      rw [unhide Hu]
      go_wp2_with fail
      refine (formed_any ⟨z, o, s, p, d, v, u⟩ _ (unhide Ho)).mono ?_
      rintro e w2 ⟨rfl, hb2⟩
      have hbz := box_then hb2
      rw [unhide Hf]
      go_wp2_with fail
      go_ret
      exact ⟨ret_gd (unhide H).symm, hbz⟩

end Go.Proofs.YtbkndjhogaloiaaGreatDoor

namespace Go.Proofs.YtbkndjhogaloiaaGreatDoor
open Go.RowKit

theorem be_front : ∀ j n, be (j + 1) n = UInt8.ofNat (n / 256 ^ j) :: be j n
  | 0, n => by simp [be]
  | j + 1, n => by
    rw [be, be_front j (n / 256), be, Nat.div_div_eq_div_mul, Nat.pow_succ, Nat.mul_comm 256]; rfl
/- cells that hold bytes -/
def byteV (l : List UInt8) : List Value := l.map fun b => .int .u8 (b.toNat : Int)
def bytesAt (W : World) (g : Nat) (l : List UInt8) : Prop := W.heap[g]? = some (.cells (byteV l).toArray 5 (0, 0))
theorem bytesAt.cell {W : World} {g : Nat} {l : List UInt8} (h : bytesAt W g l) {j : Nat} (hj : j < l.length) : W.cell? ⟨g, j, none⟩ = some (.int .u8 (l[j].toNat : Int)) := by
  unfold bytesAt at h; simp [World.cell?, h, byteV, List.getElem?_eq_getElem hj]
theorem bytesAt.soft {W : World} {g : Nat} {l : List UInt8} (h : bytesAt W g l) (j : Nat) : W.frozen? ⟨g, j, none⟩ = false := by
  unfold bytesAt at h; simp [World.frozen?, h]
theorem bytesAt.set {W : World} {g : Nat} {l : List UInt8} (h : bytesAt W g l) (j : Nat) (b : UInt8) : bytesAt (W.setCell ⟨g, j, none⟩ (.int .u8 (b.toNat : Int))) g (l.set j b) := by
  unfold bytesAt at h ⊢
  obtain ⟨hlt, hk⟩ := Array.getElem?_eq_some_iff.1 h
  show (W.heap.modify g _)[g]? = _
  rw [Array.getElem?_eq_getElem (by rw [Array.size_modify]; exact hlt), Array.getElem_modify_self, hk]
  simp [byteV, List.map_set]
theorem set_mid (m : Nat) (b : UInt8) (r : List UInt8) : (List.replicate (m + 1) 0 ++ r).set m b = List.replicate m 0 ++ b :: r := by
  rw [List.replicate_succ', List.append_assoc, List.set_append_right _ _ (by simp)]
  simp
theorem bytesAt.text {W : World} {g : Nat} {l : List UInt8} (h : bytesAt W g l) (cap : Nat) :
    (convert 137 9 (.slice (some ⟨g, 0, none⟩) l.length cap)).run Tryz.prog W = .ok (.string ⟨l.toArray⟩) W :=
  run_convert_bytes_back W 137 9 5 ⟨g, 0, none⟩ cap l Tryz.underlying137 Tryz.underlying5 Tryz.underlying9 (fun j hj => by
    rw [show (⟨g, 0, none⟩ : Addr).add j = ⟨g, j, none⟩ from by unfold Addr.add; split <;> simp_all]
    exact h.cell hj)
theorem ofNat_mod (x : Nat) : ((x : Int) % 256) = ((UInt8.ofNat x).toNat : Int) := by simp
theorem div_256 (n j : Nat) : n / 256 ^ j / 256 = n / 256 ^ (j + 1) := by rw [Nat.div_div_eq_div_mul, Nat.pow_succ]
theorem i64_v {a b : Int} (h : a = b) : Value.int .i64 a = .int .i64 b := by rw [h]
theorem ret_str0 {a b : ByteArray} (h : a = b) : Ending.returned (.string a) = .returned (.string b) := by rw [h]

theorem made_zero (k : Nat) : madeCells (Value.int .u8 0).cells k = (byteV (List.replicate k 0)).toArray := by
  apply Array.ext'
  apply List.ext_getElem
  · simp [madeCells, byteV]
  · intro j h1 h2
    simp [madeCells, byteV, Value.cells, Nat.mod_one]
theorem infoU8 : (Tryz.prog.info? 5).map (fun i => (i.zero, i.size, i.bytes)) = some (some (.int .u8 0), 1, 1) := by kernel_rfl
theorem make_bytes (k : Nat) (hk : k ≤ 8) (w : World) : (Instr.makeSlice 137 (.int .i64 k) (.int .i64 k)).run Tryz.prog w = .ok (.slice (some ⟨w.heap.size, 0, none⟩) k k) (w.alloc (.cells (byteV (List.replicate k 0)).toArray 5)) := by
  obtain ⟨i0, hi, hz0, hz1, hz2⟩ := info_parts infoU8
  have h := run_make (P := Tryz.prog) w 137 5 i0 (.int .u8 0) Tryz.underlying137 hi hz0 .i64 .i64 k k (by omega) (by omega) (by rw [hz2]; omega) (by omega)
  rw [h, hz1, Nat.mul_one, Int.toNat_natCast, made_zero]

set_option maxRecDepth 10000 in
set_option maxHeartbeats 1000000 in
theorem number_any (n k : Nat) (w : World) (hn : n < 9223372036854775808) (hk : k ≤ 8) :
    Calls Tryz.prog 73 #[.int .i64 n, .int .i64 k] w fun e w' => e = .returned (.string ⟨(be k n).toArray⟩) ∧ Below w.heap.size w w' := by
  have hmk := make_bytes k hk w
  go_enter Tryz.func73, Tryz.ntmps73
  go_wp2
  generalize hW1 : w.alloc (Obj.cells (byteV (List.replicate k 0)).toArray 5) = W1
  have HR1 : Hid (bytesAt W1 w.heap.size (List.replicate k 0 ++ be 0 n)) := hide (by
    rw [← hW1]
    show (w.heap.push _)[w.heap.size]? = _
    simp [be])
  have hB1 : Below w.heap.size w W1 := by rw [← hW1]; exact (Below.refl _ _).alloc (Nat.le_refl _) _
  clear hW1 hmk
  go_loopw [0, 6] (fun x i wr => ∃ j : Nat, j ≤ k ∧ x = .int .i64 (n / 256 ^ j : Nat) ∧ i = .int .i64 ((k : Int) - 1 - j) ∧ bytesAt wr w.heap.size (List.replicate (k - j) 0 ++ be j n) ∧ Below w.heap.size w wr) (fun _ i _ => (intOf i + 1).toNat)
  case atStart => exact ⟨0, Nat.zero_le _, by simp, by simp, unhide HR1, hB1⟩
  case round =>
    obtain ⟨j, hj, rfl, rfl, hr, hB⟩ := hrel
    have HR := hide hr
    clear hr HR1 hB1
    by_cases hlt : j < k
    · obtain ⟨m, hm⟩ : ∃ m, k - j = m + 1 := ⟨k - j - 1, by omega⟩
      have hlen : m < (List.replicate (k - j) (0 : UInt8) ++ be j n).length := by simp; omega
      have h1 := (unhide HR).cell hlen
      have h2 := (unhide HR).soft m
      have hmk : (k : Int) - 1 - j = (m : Int) := by omega
      rw [hmk]
      have hmlt : m < k := by omega
      have hq : n / 256 ^ j < 9223372036854775808 := Nat.lt_of_le_of_lt (Nat.div_le_self _ _) hn
      have Hdiv := hide (div_256 n j)
      have Hby := hide (ofNat_mod (n / 256 ^ j))
      have Hfr := hide (be_front j n)
      generalize (List.replicate (k - j) (0 : UInt8) ++ be j n)[m] = c0 at h1
      obtain ⟨x, hx⟩ : ∃ x, n / 256 ^ j = x := ⟨_, rfl⟩
      rw [hx] at hq Hdiv Hby Hfr ⊢
      have Hm := hide hm
      have Hmk := hide hmk
      clear hx hm hmk hlen
      go_wp2
      rw [unhide Hby]
      refine ⟨⟨j + 1, by omega, i64_v (by rw [← unhide Hdiv]; omega), i64_v (by have := unhide Hmk; omega), ?_, hB.setCell (by show w.heap.size ≤ w.heap.size; exact Nat.le_refl _) _⟩, by simp only [intOf]; omega⟩
      have hset := (unhide HR).set m (UInt8.ofNat x)
      rw [unhide Hm, set_mid, ← unhide Hfr] at hset
      rw [show k - (j + 1) = m from by have := unhide Hm; omega]
      exact hset
    · obtain rfl : j = k := by omega
      have hlen : (List.replicate (j - j) (0 : UInt8) ++ be j n).length = j := by simp [be_length]
      have htx := (unhide HR).text j
      rw [hlen] at htx
      rw [show (j : Int) - 1 - (j : Int) = -1 from by omega]
      have Hrep : Hid (List.replicate (j - j) (0 : UInt8) ++ be j n = be j n) := hide (by simp)
      rw [unhide Hrep] at htx
      clear hlen
      go_wp2
      go_ret
      exact ⟨rfl, hB⟩

end Go.Proofs.YtbkndjhogaloiaaGreatDoor

namespace Go.Proofs.YtbkndjhogaloiaaGreatDoor
open Go.RowKit

theorem u32_val {a b : Int} (h : a = b) : Value.int .u32 a = .int .u32 b := by rw [h]
theorem crc1_bits {c : Nat} (h : c < 4294967296) : bits .xor .u32 ((c : Int) / 2) (3988292384 * bits .and .u32 (c : Int) 1 % 4294967296) = (crc1 c : Nat) := by
  have h2 : c % 2 < 2 := Nat.mod_lt _ (by decide)
  rw [and1_u32 h, show (3988292384 * ((c % 2 : Nat) : Int) % 4294967296) = ((3988292384 * (c % 2) : Nat) : Int) from by omega]
  rw [show ((c : Int) / 2) = ((c / 2 : Nat) : Int) from by omega]
  exact xor_u32 (by omega) (by omega)
theorem crc_snoc (s : ByteArray) (k : Nat) (h : k < s.size) : crcL (s.data.toList.take (k + 1)) = crcN 8 (crcL (s.data.toList.take k) ^^^ s[k].toNat) := by
  rw [take_snoc s k h, crcL_snoc]; rfl
theorem ret_i64 {a b : Int} (h : a = b) : Ending.returned (.int .i64 a) = .returned (.int .i64 b) := by rw [h]

set_option maxRecDepth 10000 in
set_option maxHeartbeats 400000 in
theorem wsum_any (s : ByteArray) (w : World) (hs : s.size ≤ 140737488355328) :
    Calls Tryz.prog 74 #[.string s] w fun e w' => e = .returned (.int .i64 (sumN s.data.toList : Nat)) ∧ w' = w := by
  go_enter Tryz.func74, Tryz.ntmps74
  go_wp2
  go_loop [3, 8] (fun c i => ∃ k : Nat, k ≤ s.size ∧ i = .int .i64 k ∧ c = .int .u32 (crcL (s.data.toList.take k) : Nat)) (fun _ i => s.size - (intOf i).toNat)
  case atStart => exact ⟨0, Nat.zero_le _, rfl, rfl⟩
  case round =>
    obtain ⟨k, hk, rfl, rfl⟩ := hrel
    obtain ⟨c, hc⟩ : ∃ c, crcL (s.data.toList.take k) = c := ⟨_, rfl⟩
    have hcl : c < 4294967296 := hc ▸ crcL_lt _
    have Hc := hide hc
    rw [hc]
    clear hc
    by_cases hlt : k < s.size
    · have hb := s[k].toNat_lt
      have Hsn := hide (crc_snoc s k hlt)
      go_wp2
      rw [xor_u32 hcl (by omega)]
      obtain ⟨x, hx⟩ : ∃ x, c ^^^ s[k].toNat = x := ⟨_, rfl⟩
      have hxl : x < 4294967296 := hx ▸ xor_lt32 hcl (by omega)
      have Hx := hide hx
      rw [hx]
      clear hx hb
      go_loop [3, 17] (fun d j => ∃ n : Nat, n ≤ 8 ∧ j = .int .i64 n ∧ d = .int .u32 (crcN n x : Nat)) (fun _ j => 8 - (intOf j).toNat)
      case atStart => exact ⟨0, Nat.zero_le _, rfl, rfl⟩
      case round =>
        obtain ⟨n, hn, rfl, rfl⟩ := hrel
        have hy := crcN_lt hxl n
        have Hs : Hid (crcN (n + 1) x = crc1 (crcN n x)) := hide rfl
        by_cases h8 : n < 8
        · obtain ⟨y, hyy⟩ : ∃ y, crcN n x = y := ⟨_, rfl⟩
          rw [hyy] at hy Hs ⊢
          clear hyy
          go_wp2
          exact ⟨⟨n + 1, by omega, by go_num, u32_val (by rw [crc1_bits hy, unhide Hs])⟩, by simp [intOf]; omega⟩
        · obtain rfl : n = 8 := by omega
          go_wp2
          exact ⟨⟨k + 1, by omega, by go_num, u32_val (by rw [unhide Hsn, unhide Hc, unhide Hx])⟩, by simp [intOf]; omega⟩
    · obtain rfl : k = s.size := by omega
      go_wp2
      go_ret
      refine ⟨ret_i64 ?_, rfl⟩
      rw [← size_list s, List.take_length] at Hc
      rw [show IntKind.u32.max = ((4294967295 : Nat) : Int) from rfl, xor_u32 (by decide) hcl, sumN, unhide Hc]
      have h32 := xor_lt32 (show 4294967295 < 4294967296 by decide) hcl
      unfold wrap64
      omega

end Go.Proofs.YtbkndjhogaloiaaGreatDoor

namespace Go.Proofs.YtbkndjhogaloiaaGreatDoor
open Go.RowKit

theorem num_in (n : Int) (k : Nat) (w : World) (h0 : 0 ≤ n) (hn : n < 9223372036854775808) (hk : k ≤ 8) (d : Nat) (os : Array Obj) :
    Calls Tryz.prog 73 #[.int .i64 n, .int .i64 k] (Sort.grow (redrawn w d) os) fun e w'' => e = .returned (.string ⟨(be k n.toNat).toArray⟩) ∧ ∃ p : Regrown, w'' = Sort.grow (redrawn w p.d) p.os := by
  have h := number_any n.toNat k (Sort.grow (redrawn w d) os) (by omega) hk
  rw [Int.toNat_of_nonneg h0] at h
  exact Calls.regrown_of h

set_option maxRecDepth 100000 in
set_option maxHeartbeats 2000000 in
theorem body_any (t : WTxn) (w : World) (ht : gdE t = 0) :
    Calls Tryz.prog 72 #[txnV t] w fun e w' => e = .returned (.string ⟨(bodyL t).toArray⟩) ∧ Below w.heap.size w w' := by
  obtain ⟨hz, ho, hs, hv, hu, hp, hd⟩ := gd_bounds ht
  clear ht
  obtain ⟨z, o, s, p, d, v, u⟩ := t
  unfold txnV bodyL
  simp only at hz ho hs hv hu hp hd ⊢
  have hzp : (ByteArray.mk p.toArray).size = p.length := Lib.size_eq ⟨p.toArray⟩
  have hzd : (ByteArray.mk d.toArray).size = d.length := Lib.size_eq ⟨d.toArray⟩
  go_enter Tryz.func72, Tryz.ntmps72
  go_wp2_with fail
  obtain ⟨W, hW⟩ : ∃ W, w.alloc (Obj.cells #[.int .i64 z, .int .i64 o, .int .i64 s, .string ⟨p.toArray⟩, .string ⟨d.toArray⟩, .int .i64 v, .int .i64 u] 47) = W := ⟨_, rfl⟩
  have hB : Below w.heap.size w W := by rw [← hW]; exact (Below.refl _ _).alloc (Nat.le_refl _) _
  have k0 : ∀ d' os, (Sort.grow (redrawn W d') os).cell? ⟨w.heap.size, 0, none⟩ = some (.int .i64 z) := fun d' os => cell_regrown (by rw [← hW]; simp) d' os
  have k1 : ∀ d' os, (Sort.grow (redrawn W d') os).cell? ⟨w.heap.size, 1, none⟩ = some (.int .i64 o) := fun d' os => cell_regrown (by rw [← hW]; simp) d' os
  have k2 : ∀ d' os, (Sort.grow (redrawn W d') os).cell? ⟨w.heap.size, 2, none⟩ = some (.int .i64 s) := fun d' os => cell_regrown (by rw [← hW]; simp) d' os
  have k3 : ∀ d' os, (Sort.grow (redrawn W d') os).cell? ⟨w.heap.size, 3, none⟩ = some (.string ⟨p.toArray⟩) := fun d' os => cell_regrown (by rw [← hW]; simp) d' os
  have k4 : ∀ d' os, (Sort.grow (redrawn W d') os).cell? ⟨w.heap.size, 4, none⟩ = some (.string ⟨d.toArray⟩) := fun d' os => cell_regrown (by rw [← hW]; simp) d' os
  have k5 : ∀ d' os, (Sort.grow (redrawn W d') os).cell? ⟨w.heap.size, 5, none⟩ = some (.int .i64 v) := fun d' os => cell_regrown (by rw [← hW]; simp) d' os
  have k6 : ∀ d' os, (Sort.grow (redrawn W d') os).cell? ⟨w.heap.size, 6, none⟩ = some (.int .i64 u) := fun d' os => cell_regrown (by rw [← hW]; simp) d' os
  rw [hW]
  clear hW
  have c0 : ∀ d' os, Calls Tryz.prog 73 #[.int .i64 z, .int .i64 8] (Sort.grow (redrawn W d') os) fun e w'' => e = .returned (.string ⟨(be 8 z.toNat).toArray⟩) ∧ ∃ p : Regrown, w'' = Sort.grow (redrawn W p.d) p.os := num_in z 8 W (by omega) (by omega) (by omega)
  have c1 : ∀ d' os, Calls Tryz.prog 73 #[.int .i64 o, .int .i64 1] (Sort.grow (redrawn W d') os) fun e w'' => e = .returned (.string ⟨(be 1 o.toNat).toArray⟩) ∧ ∃ p : Regrown, w'' = Sort.grow (redrawn W p.d) p.os := num_in o 1 W (by omega) (by omega) (by omega)
  have c2 : ∀ d' os, Calls Tryz.prog 73 #[.int .i64 s, .int .i64 4] (Sort.grow (redrawn W d') os) fun e w'' => e = .returned (.string ⟨(be 4 s.toNat).toArray⟩) ∧ ∃ p : Regrown, w'' = Sort.grow (redrawn W p.d) p.os := num_in s 4 W (by omega) (by omega) (by omega)
  have c3 : ∀ d' os, Calls Tryz.prog 73 #[.int .i64 v, .int .i64 4] (Sort.grow (redrawn W d') os) fun e w'' => e = .returned (.string ⟨(be 4 v.toNat).toArray⟩) ∧ ∃ p : Regrown, w'' = Sort.grow (redrawn W p.d) p.os := num_in v 4 W (by omega) (by omega) (by omega)
  have c4 : ∀ d' os, Calls Tryz.prog 73 #[.int .i64 u, .int .i64 4] (Sort.grow (redrawn W d') os) fun e w'' => e = .returned (.string ⟨(be 4 u.toNat).toArray⟩) ∧ ∃ p : Regrown, w'' = Sort.grow (redrawn W p.d) p.os := num_in u 4 W (by omega) (by omega) (by omega)
  have c5 : ∀ d' os, Calls Tryz.prog 73 #[.int .i64 (p.length : Nat), .int .i64 1] (Sort.grow (redrawn W d') os) fun e w'' => e = .returned (.string ⟨(be 1 p.length).toArray⟩) ∧ ∃ p : Regrown, w'' = Sort.grow (redrawn W p.d) p.os := num_in p.length 1 W (by omega) (by omega) (by omega)
  have c6 : ∀ d' os, Calls Tryz.prog 73 #[.int .i64 (d.length : Nat), .int .i64 2] (Sort.grow (redrawn W d') os) fun e w'' => e = .returned (.string ⟨(be 2 d.length).toArray⟩) ∧ ∃ p : Regrown, w'' = Sort.grow (redrawn W p.d) p.os := num_in d.length 2 W (by omega) (by omega) (by omega)
  have l0 := be_length 8 z.toNat
  have l1 := be_length 1 o.toNat
  have l2 := be_length 4 s.toNat
  have l3 := be_length 4 v.toNat
  have l4 := be_length 4 u.toNat
  have l5 := be_length 1 p.length
  have l6 := be_length 2 d.length
  obtain ⟨b0, e0⟩ : ∃ b, be 8 z.toNat = b := ⟨_, rfl⟩
  rw [e0] at c0 l0
  have E0 := hide e0
  clear e0
  obtain ⟨b1, e1⟩ : ∃ b, be 1 o.toNat = b := ⟨_, rfl⟩
  rw [e1] at c1 l1
  have E1 := hide e1
  clear e1
  obtain ⟨b2, e2⟩ : ∃ b, be 4 s.toNat = b := ⟨_, rfl⟩
  rw [e2] at c2 l2
  have E2 := hide e2
  clear e2
  obtain ⟨b3, e3⟩ : ∃ b, be 4 v.toNat = b := ⟨_, rfl⟩
  rw [e3] at c3 l3
  have E3 := hide e3
  clear e3
  obtain ⟨b4, e4⟩ : ∃ b, be 4 u.toNat = b := ⟨_, rfl⟩
  rw [e4] at c4 l4
  have E4 := hide e4
  clear e4
  obtain ⟨b5, e5⟩ : ∃ b, be 1 p.length = b := ⟨_, rfl⟩
  rw [e5] at c5 l5
  have E5 := hide e5
  clear e5
  obtain ⟨b6, e6⟩ : ∃ b, be 2 d.length = b := ⟨_, rfl⟩
  rw [e6] at c6 l6
  have E6 := hide e6
  clear e6
  refine wp_region_quiet_below (by kernel_rfl) (by kernel_rfl) ?_
  repeat (first | go_big_quiet_step (first | with_reducible exact c0 _ _ | with_reducible exact c1 _ _ | with_reducible exact c2 _ _ | with_reducible exact c3 _ _ | with_reducible exact c4 _ _ | with_reducible exact c5 _ _ | with_reducible exact c6 _ _) | quiet_step (first | with_reducible exact c0 _ _ | with_reducible exact c1 _ _ | with_reducible exact c2 _ _ | with_reducible exact c3 _ _ | with_reducible exact c4 _ _ | with_reducible exact c5 _ _ | with_reducible exact c6 _ _))
  refine wpQuiet_nil ?_
  intro _ hw'
  obtain ⟨⟨dq, osq⟩, hw''⟩ := hw'
  subst hw''
  have hb2 : Below w.heap.size w (Sort.grow (redrawn W dq) osq) := below_next hB (below_regrown W dq osq)
  clear c0 c1 c2 c3 c4 c5 c6 k0 k1 k2 k3 k4 k5 k6
  go_wp2_with fail
  go_ret
  refine ⟨ret_str0 ?_, hb2⟩
  rw [cat_one, cat_one, cat_one, cat_one, cat_one, cat_one, cat_one, cat_one]
  simp only [List.append_assoc]
  rw [unhide E0, unhide E1, unhide E2, unhide E3, unhide E4, unhide E5, unhide E6]

theorem ret_strI {a b : ByteArray} {i j : Int} (h : a = b) (h' : i = j) : Ending.returned (.tuple #[.string a, .int .i64 i]) = .returned (.tuple #[.string b, .int .i64 j]) := by rw [h, h']

set_option maxRecDepth 10000 in
set_option maxHeartbeats 1000000 in
theorem encode_yes (t : WTxn) (w : World) (h : gdE t = 0) :
    Calls Tryz.prog 54 #[txnV t] w fun e w' => e = .returned (.tuple #[.string ⟨(recL t).toArray⟩, .int .i64 0]) ∧ Below w.heap.size w w' := by
  have H := hide h
  obtain ⟨_, _, _, _, _, _, hd⟩ := gd_bounds h
  have hbl := gd_body_le h
  clear h
  obtain ⟨b, hb⟩ : ∃ b, bodyL t = b := ⟨_, rfl⟩
  have Hb := hide hb
  rw [hb] at hbl
  clear hb
  have hzb : (ByteArray.mk b.toArray).size = b.length := Lib.size_eq ⟨b.toArray⟩
  obtain ⟨z, o, s, p, d, v, u⟩ := t
  unfold txnV
  replace hd : d.length ≤ 256 := hd
  go_enter Tryz.func54, Tryz.ntmps54
  go_wp2_with fail
  refine (wgood_any ⟨z, o, s, p, d, v, u⟩ _ (by show d.length ≤ _; omega)).mono ?_
  rintro e w1 ⟨rfl, hb1⟩
  have hbz := box_then hb1
  obtain ⟨hc, hf⟩ := bcell hb1
  have hz1 : w.heap.size < w1.heap.size := by have := hb1.size; simp at this; omega
  rw [unhide H]
  go_wp2_with fail
  refine (body_any ⟨z, o, s, p, d, v, u⟩ _ (unhide H)).mono ?_
  rintro e w2 ⟨rfl, hb2⟩
  replace hb2 := below_next hbz hb2
  rw [unhide Hb]
  clear hc hf hb1 hbz hz1
  go_wp2_with fail
  refine (number_any b.length 2 _ (by omega) (by omega)).mono ?_
  rintro e w3 ⟨rfl, hb3⟩
  replace hb3 := below_next hb2 hb3
  clear hb2
  have l2 := be_length 2 b.length
  obtain ⟨n2, e2⟩ : ∃ n2, be 2 b.length = n2 := ⟨_, rfl⟩
  rw [e2] at l2 ⊢
  have E2 := hide e2
  clear e2
  go_wp2_with fail
  have hF : (ByteArray.mk #[84] ++ ByteArray.mk n2.toArray ++ ByteArray.mk b.toArray) = ⟨(frontL b).toArray⟩ := by
    rw [show (ByteArray.mk #[84]) = ⟨[(84 : UInt8)].toArray⟩ from rfl, cat_one, cat_one, frontL, unhide E2]
    rfl
  rw [hF]
  have lF := frontL_length b
  obtain ⟨F, eF⟩ : ∃ F, frontL b = F := ⟨_, rfl⟩
  rw [eF] at lF ⊢
  have EF := hide eF
  clear eF hF
  have hzF : (ByteArray.mk F.toArray).size = F.length := Lib.size_eq ⟨F.toArray⟩
  refine (wsum_any ⟨F.toArray⟩ _ (by omega)).mono ?_
  rintro e w4 ⟨rfl, rfl⟩
  rw [show (ByteArray.mk F.toArray).data.toList = F from rfl]
  have hsl := sumN_lt F
  obtain ⟨X, hX⟩ : ∃ X, sumN F = X := ⟨_, rfl⟩
  rw [hX] at hsl ⊢
  have HX := hide hX
  clear hX
  go_wp2_with fail
  refine (number_any X 4 _ (by omega) (by omega)).mono ?_
  rintro e w5 ⟨rfl, hb5⟩
  replace hb5 := below_next hb3 hb5
  clear hb3
  have l4 := be_length 4 X
  obtain ⟨n4, e4⟩ : ∃ n4, be 4 X = n4 := ⟨_, rfl⟩
  rw [e4] at l4 ⊢
  have E4 := hide e4
  clear e4
  go_wp2_with fail
  go_ret2
  refine ⟨ret_strI ?_ rfl, hb5⟩
  rw [cat_one, recL, unhide Hb, unhide EF, unhide HX, unhide E4]

end Go.Proofs.YtbkndjhogaloiaaGreatDoor

namespace Go.Proofs.YtbkndjhogaloiaaGreatDoor
open Go.RowKit

/-- a store into a box that holds no text leaves a disk's files alone -/
theorem disk_box {W : World} {v : Value} {fs : List DF} (h : DiskV W v fs) {k : Nat} {a : Option Addr} {n c : Nat} (hb : BoxAt W k (.slice a n c)) (u : Value) : DiskV (W.setCell ⟨k, 0, none⟩ u) v fs := by
  rcases h with h | ⟨b, off, cap, rfl, h1, h2, h3, h0, h4⟩
  · exact .inl h
  · have hne : b ≠ k := by
      rintro rfl
      obtain ⟨f, r, rfl⟩ : ∃ f r, fs = f :: r := by
        cases fs with
        | nil => exact absurd rfl h0
        | cons f r => exact ⟨f, r, rfl⟩
      have e := h4.c0 (i := 0) (f := f) rfl
      unfold BoxAt at hb
      simp only [World.cell?, hb] at e
      cases off with
      | zero => simp at e
      | succ m => simp at e
    refine .inr ⟨b, off, cap, rfl, h1, h2, by simpa [World.setCell] using h3, h0, fun j x hj => ?_⟩
    rw [← h4 j x hj]
    exact World.cell?_of_block (Below.heap_setCell W ⟨k, 0, none⟩ u b hne)
theorem log_box {W : World} {v : Value} {ts : List WTxn} (h : LogV W v ts) {k : Nat} {a : Option Addr} {n c : Nat} (hb : BoxAt W k (.slice a n c)) (u : Value) : LogV (W.setCell ⟨k, 0, none⟩ u) v ts := by
  rcases h with h | ⟨b, off, cap, rfl, h1, h2, h3, h0, h4⟩
  · exact .inl h
  · have hne : b ≠ k := by
      rintro rfl
      obtain ⟨f, r, rfl⟩ : ∃ f r, ts = f :: r := by
        cases ts with
        | nil => exact absurd rfl h0
        | cons f r => exact ⟨f, r, rfl⟩
      have e := h4.z (i := 0) (t := f) rfl
      unfold BoxAt at hb
      simp only [World.cell?, hb] at e
      cases off with
      | zero => simp at e
      | succ m => simp at e
    refine .inr ⟨b, off, cap, rfl, h1, h2, by simpa [World.setCell] using h3, h0, fun j x hj => ?_⟩
    rw [← h4 j x hj]
    exact World.cell?_of_block (Below.heap_setCell W ⟨k, 0, none⟩ u b hne)
theorem BoxAt.other {W : World} {k j : Nat} {v : Value} (h : BoxAt W k v) (hj : k ≠ j) (u : Value) : BoxAt (W.setCell ⟨j, 0, none⟩ u) k v := (Below.heap_setCell W ⟨j, 0, none⟩ u k hj).trans h
theorem BoxAt.lt {W : World} {k : Nat} {v : Value} (h : BoxAt W k v) : k < W.heap.size := by unfold BoxAt at h; exact (Array.getElem?_eq_some_iff.1 h).1

/-- blocks of a call that is handed a disk and a transaction: the disk's, the result's -/
structure ABox (w W : World) (v : Value) : Prop where
  below : Below w.heap.size w W
  d : BoxAt W w.heap.size v
  r : BoxAt W (w.heap.size + 1 + 1) (.slice none 0 0)
theorem ABox.next {w W V : World} {v : Value} (h : ABox w W v) (hb : Below W.heap.size W V) : ABox w V v := ⟨below_next2 h.below hb, h.d.next hb, h.r.next hb⟩
theorem ABox.start (w : World) (v : Value) (o : Obj) : ABox w (((w.alloc (.cells #[v] 26)).alloc o).alloc (.cells #[.slice none 0 0] 26)) v := by
  have b1 : Below (w.alloc (.cells #[v] 26)).heap.size (w.alloc (.cells #[v] 26)) ((w.alloc (.cells #[v] 26)).alloc o) := (Below.refl _ _).alloc (Nat.le_refl _) _
  have b2 : Below ((w.alloc (.cells #[v] 26)).alloc o).heap.size ((w.alloc (.cells #[v] 26)).alloc o) (((w.alloc (.cells #[v] 26)).alloc o).alloc (.cells #[.slice none 0 0] 26)) := (Below.refl _ _).alloc (Nat.le_refl _) _
  have b0 : Below w.heap.size w (w.alloc (.cells #[v] 26)) := (Below.refl _ _).alloc (Nat.le_refl _) _
  refine ⟨below_next2 (below_next2 b0 b1) b2, ((BoxAt.new w v).next b1).next b2, ?_⟩
  have h := BoxAt.new ((w.alloc (.cells #[v] 26)).alloc o) (.slice none 0 0)
  have hz : ((w.alloc (.cells #[v] 26)).alloc o).heap.size = w.heap.size + 1 + 1 := by simp
  rw [hz] at h
  exact h

end Go.Proofs.YtbkndjhogaloiaaGreatDoor

namespace Go.Proofs.YtbkndjhogaloiaaGreatDoor
open Go.RowKit

/-- blocks of a call that is handed a disk: the disk's, the result's -/
structure RBox (w W : World) (v : Value) : Prop where
  below : Below w.heap.size w W
  d : BoxAt W w.heap.size v
  r : BoxAt W (w.heap.size + 1) (.slice none 0 0)
theorem RBox.next {w W V : World} {v : Value} (h : RBox w W v) (hb : Below W.heap.size W V) : RBox w V v := ⟨below_next2 h.below hb, h.d.next hb, h.r.next hb⟩
theorem RBox.start (w : World) (v : Value) : RBox w ((w.alloc (.cells #[v] 26)).alloc (.cells #[.slice none 0 0] 26)) v := by
  have b1 : Below w.heap.size w (w.alloc (.cells #[v] 26)) := (Below.refl _ _).alloc (Nat.le_refl _) _
  have b2 : Below (w.alloc (.cells #[v] 26)).heap.size (w.alloc (.cells #[v] 26)) ((w.alloc (.cells #[v] 26)).alloc (.cells #[.slice none 0 0] 26)) := (Below.refl _ _).alloc (Nat.le_refl _) _
  refine ⟨below_next2 b1 b2, (BoxAt.new w v).next b2, ?_⟩
  have h := BoxAt.new (w.alloc (.cells #[v] 26)) (.slice none 0 0)
  have hz : (w.alloc (.cells #[v] 26)).heap.size = w.heap.size + 1 := by simp
  rw [hz] at h
  exact h
/-- a call on a disk says E, and hands back a log and a disk -/
def GivesW (f : FuncId) (args : Value → Array Value) (fs : List DF) (ts : List WTxn) (d : List DF) (E : Int) : Prop := ∀ v W, DiskV W v fs → Calls Tryz.prog f (args (.agg #[v])) W fun e w' => ∃ a1 k1 c1 a n c, e = .returned (.tuple #[.slice a1 k1 c1, .agg #[.slice a n c], .int .i64 E]) ∧ Hid (LogV w' (.slice a1 k1 c1) ts) ∧ Hid (DiskV w' (.slice a n c) d) ∧ Below W.heap.size W w'
/-- what reading the log says -/
def GivesS (f : FuncId) (fs : List DF) (s : List UInt8) (E : Int) : Prop := ∀ v W, DiskV W v fs → Calls Tryz.prog f #[.agg #[v], .string ⟨#[108, 111, 103]⟩] W fun e w' => e = .returned (.tuple #[.string ⟨s.toArray⟩, .int .i64 E]) ∧ Below W.heap.size W w'
/-- what scanning bytes says -/
def GivesL (f : FuncId) (s : List UInt8) (ts : List WTxn) (n : Nat) : Prop := ∀ W, Calls Tryz.prog f #[.string ⟨s.toArray⟩] W fun e w' => ∃ v, e = .returned (.tuple #[v, .int .i64 n]) ∧ LogV w' v ts ∧ Below W.heap.size W w'

set_option maxRecDepth 10000 in
set_option maxHeartbeats 1000000 in
theorem wrec_gap_any (fs d1 : List DF) (E : Int) (CR : GivesS 45 fs [] 7) (GW : GivesD 29 (fun x => #[x, .string ⟨logN.toArray⟩, .string ⟨(([] : List UInt8)).toArray⟩]) fs d1 E) : GivesW 21 (fun x => #[x]) fs [] d1 E := by
  intro v w hv
  simp only [show logN.toArray = #[108, 111, 103] from rfl] at GW
  have HV := hide hv
  obtain ⟨a, n, c, rfl⟩ := disk_slice hv
  clear hv
  go_enter Tryz.func21, Tryz.ntmps21
  go_wp2_with fail
  have X := hide (RBox.start w (.slice a n c))
  generalize (w.alloc (.cells #[.slice a n c] 26)).alloc (.cells #[.slice none 0 0] 26) = W0 at *
  refine (CR _ _ ((unhide HV).next (unhide X).below)).mono ?_
  rintro e w1 ⟨rfl, hb1⟩
  have X1 := (unhide X).next hb1
  have cd := X1.d.c
  have HX1 := hide X1
  clear hb1 X X1 CR
  go_wp2_with fail
  refine (GW _ _ ((unhide HV).next (unhide HX1).below)).mono ?_
  rintro e w2 ⟨a2, n2, c2, rfl, HD2, hb2⟩
  have hal := (Below.refl w2.heap.size w2).alloc (Nat.le_refl _) (.cells #[.slice a2 n2 c2] 26)
  have X2 := ((unhide HX1).next hb2).next hal
  have cr := X2.r.c
  have fr := X2.r.f
  have cy := (BoxAt.new w2 (.slice a2 n2 c2)).c
  have hz2 := ((unhide HX1).next hb2).r.lt
  have hnz : w.heap.size + 1 ≠ w2.heap.size := by omega
  have HF := hide (And.intro (X2.below.setCell (p := ⟨w.heap.size + 1, 0, none⟩) (by show w.heap.size ≤ w.heap.size + 1; omega) (.slice a2 n2 c2)) (disk_box ((unhide HD2).next hal) X2.r (.slice a2 n2 c2)))
  clear hb2 hal X2 HX1 HD2 GW cd HV
  go_wp2_with fail
  generalize w2.alloc (.cells #[.slice a2 n2 c2] 26) = W2 at *
  go_region
  go_wp2_with fail
  exact bodyPost_ret (v := .tuple #[.slice none 0 0, .agg #[.slice a2 n2 c2], .int .i64 E]) (by simp [results, Tryz.results21, go_sem, cr]) rfl ⟨_, _, _, _, _, _, rfl, hide (LogV.nil _), hide (unhide HF).2.drew, (unhide HF).1.drew⟩

set_option maxRecDepth 10000 in
set_option maxHeartbeats 1000000 in
theorem wrec_there (fs d1 : List DF) (s : List UInt8) (ts : List WTxn) (N : Nat) (CR : GivesS 45 fs s 0) (CS : GivesL 46 s ts N) (GC : GivesD 24 (fun x => #[x, .string ⟨logN.toArray⟩, .int .i64 N]) fs d1 0) : GivesW 21 (fun x => #[x]) fs ts d1 0 := by
  intro v w hv
  simp only [show logN.toArray = #[108, 111, 103] from rfl] at GC
  have HV := hide hv
  obtain ⟨a, n, c, rfl⟩ := disk_slice hv
  clear hv
  go_enter Tryz.func21, Tryz.ntmps21
  go_wp2_with fail
  have X := hide (RBox.start w (.slice a n c))
  generalize (w.alloc (.cells #[.slice a n c] 26)).alloc (.cells #[.slice none 0 0] 26) = W0 at *
  refine (CR _ _ ((unhide HV).next (unhide X).below)).mono ?_
  rintro e w1 ⟨rfl, hb1⟩
  have X1 := (unhide X).next hb1
  have HX1 := hide X1
  clear hb1 X X1 CR
  go_wp2_with fail
  refine (CS _).mono ?_
  rintro e w2 ⟨v2, rfl, hl2, hb2⟩
  have X2 := (unhide HX1).next hb2
  have HL2 := hide hl2
  obtain ⟨al, cl, rfl⟩ := log_slice hl2
  have cd2 := X2.d.c
  have HX2 := hide X2
  clear hb2 hl2 X2 HX1 CS
  go_wp2_with fail
  refine (GC _ _ ((unhide HV).next (unhide HX2).below)).mono ?_
  rintro e w3 ⟨a3, n3, c3, rfl, HD3, hb3⟩
  have hal := (Below.refl w3.heap.size w3).alloc (Nat.le_refl _) (.cells #[.slice a3 n3 c3] 26)
  have X3 := ((unhide HX2).next hb3).next hal
  have cr := X3.r.c
  have fr := X3.r.f
  have cy := (BoxAt.new w3 (.slice a3 n3 c3)).c
  have hz2 := ((unhide HX2).next hb3).r.lt
  have hnz : w.heap.size + 1 ≠ w3.heap.size := by omega
  have HF := hide (And.intro (X3.below.setCell (p := ⟨w.heap.size + 1, 0, none⟩) (by show w.heap.size ≤ w.heap.size + 1; omega) (.slice a3 n3 c3)) (And.intro (disk_box ((unhide HD3).next hal) X3.r (.slice a3 n3 c3)) (log_box (((unhide HL2).next hb3).next hal) X3.r (.slice a3 n3 c3))))
  clear hb3 hal X3 HX2 HD3 HL2 GC cd2 HV
  go_wp2_with fail
  generalize w3.alloc (.cells #[.slice a3 n3 c3] 26) = W3 at *
  go_region
  go_wp2_with fail
  exact bodyPost_ret (v := .tuple #[.slice al ts.length cl, .agg #[.slice a3 n3 c3], .int .i64 0]) (by simp [results, Tryz.results21, go_sem, cr]) rfl ⟨_, _, _, _, _, _, rfl, hide (unhide HF).2.2.drew, hide (unhide HF).2.1.drew, (unhide HF).1.drew⟩
end Go.Proofs.YtbkndjhogaloiaaGreatDoor
