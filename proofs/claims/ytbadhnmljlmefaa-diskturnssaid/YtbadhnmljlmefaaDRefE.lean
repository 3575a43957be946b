/-
  What aviaryref.Remove answers; that Sync, Cut and Remove answer alike: the walks.
-/
import Derived.Test.YtbadhnmljlmefaaDRefD
namespace Go.Proofs.Ytbadhnmljlmefaa
open Go.RowKit

/-- the files of other names -/
def restD (name : List UInt8) (fs : List DF) : List DF := fs.filter fun f => decide (f.n ≠ name)
theorem rest_succ (name : List UInt8) {fs : List DF} {k : Nat} {f : DF} (h : fs[k]? = some f) : restD name (fs.take (k + 1)) = if f.n = name then restD name (fs.take k) else restD name (fs.take k) ++ [f] := by
  obtain ⟨hk, rfl⟩ := List.getElem?_eq_some_iff.1 h
  rw [List.take_succ_eq_append_getElem hk, restD, List.filter_append]
  by_cases e : fs[k].n = name
  · rw [if_pos e]; simp [restD, e]
  · rw [if_neg e]; simp [restD, e]
def remE (name : List UInt8) (fs : List DF) : Int := if (restD name fs).length = fs.length then 7 else 0
def remD (name : List UInt8) (fs : List DF) : List DF := if (restD name fs).length = fs.length then [] else restD name fs
theorem rest_all {name : List UInt8} {l : List DF} (h : ∀ f ∈ l, f.n ≠ name) : restD name l = l := List.filter_eq_self.2 fun f hf => by simpa using h f hf
theorem There.rest {fs A B : List DF} {f : DF} {name : List UInt8} (T : There fs A f B name) : restD name fs = A ++ B := by
  have h1 : restD name A = A := rest_all fun a ha => bl_ne (T.lo a ha)
  have h2 : restD name B = B := rest_all fun b hb => (bl_ne (T.hi b hb)).symm
  rw [T.eq, restD, List.filter_append, List.filter_cons_of_neg (by simp [T.nm])]
  exact congr (congrArg _ h1) h2
theorem Gap.rest {fs A B : List DF} {name : List UInt8} (G : Gap fs A B name) : restD name fs = fs := rest_all fun f hf => by
  rw [G.eq] at hf
  rcases List.mem_append.1 hf with h | h
  · exact bl_ne (G.lo f h)
  · exact (bl_ne (G.hi f h)).symm

set_option maxRecDepth 10000 in
set_option maxHeartbeats 2000000 in
theorem rremove_yes (v : Value) (fs : List DF) (name : List UInt8) (w : World) (hv : DiskV w v fs) (hs : Slim fs) (g : GoodD fs) :
    Calls Try.prog 20 #[.agg #[v], .string ⟨name.toArray⟩] w fun e w' => ∃ v', e = .returned (.tuple #[.agg #[v'], .int .i64 (remE name fs)]) ∧ DiskV w' v' (remD name fs) ∧ Below w.heap.size w w' := by
  obtain ⟨i0, hi0, hz0, hz1, hz2⟩ := info_file
  have C := fun W (hW : Below w.heap.size w W) => rgood_any _ fs W (hv.next hW) hs (by have := g.few; omega)
  rw [goodD_true.2 g] at C
  have hfew := g.few
  have HG := hide g
  obtain ⟨a, c, rfl, hrow⟩ : ∃ a c, v = .slice a fs.length c ∧ (0 < fs.length → ∃ b off, a = some ⟨b, off, none⟩ ∧ b < w.heap.size ∧ RowAt w b off (cellsF fs)) := by
    rcases hv with ⟨a, cap, rfl, rfl, _⟩ | ⟨b, off, cap, rfl, _, _, hb, _, hr⟩
    · exact ⟨a, cap, rfl, fun h => by simp at h⟩
    · exact ⟨_, cap, rfl, fun _ => ⟨b, off, rfl, hb, hr⟩⟩
  have HR := hide hrow
  clear hv hs g hrow
  go_enter Try.func20, Try.ntmps20
  go_wp2_with fail
  have X := Boxes.start w (.slice a fs.length c) 24 24
  refine (C _ X.below).mono ?_
  rintro e w1 ⟨rfl, hb1⟩
  have X1 := (X.next hb1).alloc (.cells #[.slice none 0 0] 24)
  have HX := hide X1
  have cd := X1.cd
  have hz := (X.next hb1).size
  have HO := hide (BoxAt.new w1 (.slice none 0 0))
  have hsz : (w1.alloc (.cells #[.slice none 0 0] 24)).heap.size = w1.heap.size + 1 := by simp
  have HZ := hide hsz
  clear C hb1 X X1 hsz
  go_wp2_with fail
  generalize w1.alloc (.cells #[.slice none 0 0] 24) = W1 at *
  go_loopg [16] fs.length (fun kx s wr => ∃ (k j : Nat) (a1 : Option Addr) (c1 : Nat), s = .int .i64 k ∧ j ≤ k ∧ k ≤ fs.length ∧ fs.length - k ≤ kx ∧ Hid (Boxes w wr (.slice a fs.length c) ∧ BoxAt wr w1.heap.size (.slice a1 j c1) ∧ OwnV wr (w1.heap.size + 1) (.slice a1 j c1) (restD name (fs.take k)) ∧ (restD name (fs.take k)).length = j))
  case atStart => exact ⟨0, 0, none, 0, rfl, Nat.le_refl _, Nat.zero_le _, by omega, hide ⟨unhide HX, unhide HO, .inl ⟨rfl, rfl⟩, rfl⟩⟩
  case round =>
    obtain ⟨k, j, a1, c1, rfl, hjk, hk, hkx, hI⟩ := hrel
    have co := (unhide hI).2.1.c
    have fo := (unhide hI).2.1.f
    have ho1 : w1.heap.size < wr.heap.size := by
      have := (unhide hI).2.1
      unfold BoxAt at this
      exact (Array.getElem?_eq_some_iff.1 this).1
    have cd1 := (unhide hI).1.cd
    by_cases hlt : k < fs.length
    · obtain ⟨b, off, rfl, hb, hr⟩ := unhide HR (by omega)
      obtain ⟨f, hf⟩ : ∃ f, fs[k]? = some f := ⟨_, List.getElem?_eq_getElem hlt⟩
      have r := hr.kept (unhide hI).1.below hb
      have e0 := r.c0 hf
      have e1 := r.c1 hf
      have e2 := r.c2 hf
      have hbw : b < wr.heap.size := Nat.lt_of_lt_of_le hb (unhide hI).1.below.size
      have hlti : (k : Int) < (fs.length : Int) := by omega
      have HM := hide (rest_succ name hf)
      clear r hr hf
      by_cases hn : f.n = name
      · have hal := (Below.refl wr.heap.size wr).alloc (Nat.le_refl _) (.cells #[.string ⟨f.n.toArray⟩, .string ⟨f.s.toArray⟩, .string ⟨f.t.toArray⟩] 41)
        have HI2 : Hid (Boxes w _ _ ∧ BoxAt _ w1.heap.size (.slice a1 j c1) ∧ OwnV _ (w1.heap.size + 1) (.slice a1 j c1) (restD name (fs.take (k + 1))) ∧ (restD name (fs.take (k + 1))).length = j) := hide ⟨(unhide hI).1.next hal, (unhide hI).2.1.next hal, by rw [unhide HM, if_pos hn]; exact (unhide hI).2.2.1.next hal, by rw [unhide HM, if_pos hn]; exact (unhide hI).2.2.2⟩
        clear hal HM
        rw [hn] at e0 HI2
        clear hn
        go_wp2_with fail
        go_roundg (fs.length - (k + 1))
        case measure => omega
        case rel => exact ⟨k + 1, j, a1, c1, rfl, by omega, by omega, Nat.le_refl _, HI2⟩
      · have hn2 : (f.n == name) = false := by simpa using hn
        obtain ⟨M, hM⟩ : ∃ M, restD name (fs.take k) = M := ⟨_, rfl⟩
        rw [hM] at hI HM
        have hlen : M.length = j := (unhide hI).2.2.2
        have hrw : ∀ O1 O2, ∀ W, W = (wr.alloc O1).alloc O2 → W.ownsRow (w1.heap.size + 1) 41 3 (.slice a1 j c1) j (cellsF M) := fun O1 O2 W e => by
          subst e
          have h := (((unhide hI).2.2.1.next ((Below.refl _ _).alloc (Nat.le_refl _) O1)).next ((Below.refl _ _).alloc (Nat.le_refl _) O2)).row
          rwa [hlen] at h
        have HRW := hide hrw
        have hst : ∀ O1 O2 v' w5, w5.ownsRow (w1.heap.size + 1) 41 3 v' (j + 1) (cellsF M ++ fcells f) → ((wr.alloc O1).alloc O2).grownBy w5 (Value.slice a1 j c1).ownBlock →
            ∃ a5 c5, v' = .slice a5 (j + 1) c5 ∧ Boxes w w5 (.slice (some ⟨b, off, none⟩) fs.length c) ∧ BoxAt w5 w1.heap.size (.slice a1 j c1) ∧ OwnV w5 (w1.heap.size + 1) (.slice a5 (j + 1) c5) (M ++ [f]) := fun O1 O2 v' w5 hown hgrow => by
          have e1 : (M ++ [f]).length = j + 1 := by rw [List.length_append, hlen]; rfl
          have ho : OwnV w5 (w1.heap.size + 1) v' (M ++ [f]) := OwnV.of_row (by rw [e1, cellsF_append]; simpa [cellsF] using hown)
          obtain ⟨a5, c5, rfl, _⟩ := own_slice ho
          have hal1 := (Below.refl wr.heap.size wr).alloc (Nat.le_refl _) O1
          have hal2 := (Below.refl (wr.alloc O1).heap.size (wr.alloc O1)).alloc (Nat.le_refl _) O2
          have hbl : ∀ q, (Value.slice a1 j c1).ownBlock = some q → w1.heap.size + 1 ≤ q := fun q e => (own_block (unhide hI).2.2.1 q e).1
          refine ⟨a5, c5, by rw [e1], (((unhide hI).1.next hal1).next hal2).grownO hgrow (fun q e => by have := hbl q e; omega), (((unhide hI).2.1.next hal1).next hal2).grown hgrow (fun e => by have := hbl _ e.symm; omega), by rw [e1] at ho; exact ho⟩
        have HST := hide (fun v' w5 O1 O2 h1 h2 => hst O1 O2 v' w5 h1 h2)
        have hc2 : ∀ O1 : Obj, ∀ i u, (fcells f)[i]? = some u → ((wr.alloc O1).alloc (.cells #[.string ⟨f.n.toArray⟩, .string ⟨f.s.toArray⟩, .string ⟨f.t.toArray⟩] 41)).cell? ((⟨wr.heap.size + 1, 0, none⟩ : Addr).add i) = some u := fun O1 i u hi => by
          rw [Addr.add_lit]
          exact (one_new (wr.alloc O1) f (wr.heap.size + 1) (by simp)).row i u hi
        have HC2 := hide hc2
        have HLEN := hide hlen
        have h4 : Hid (j + 1 ≤ maxLen) := by unfold Hid; simp only [maxLen]; omega
        have h5 : Hid ((j + 1) * 48 ≤ 140737488355328) := by unfold Hid; omega
        have h6 : Hid (∀ O1 O2, w1.heap.size + 1 ≤ ((wr.alloc O1).alloc O2).heap.size) := fun O1 O2 => by simp; omega
        have HN := hide hn
        clear hrw hst hc2 hM hlen hn
        go_wp2_with (at_builtin; refine wpList_append_own _ rfl _ _ 22 rfl (w1.heap.size + 1) 41 i0 _ 3 48 Try.underlying22 hi0 hz0 hz1 hz2 rfl (by decide) _ j (cellsF M) rfl (unhide HRW _ _ _ rfl) ⟨wr.heap.size + 1, 0, none⟩ 1 1 (fcells f) rfl rfl (unhide HC2 _) (fcells_one _) (unhide h4) (unhide h5) (unhide h6 _ _) ?_)
        intro v' w5 hown hgrow _
        have Z := unhide HST _ _ _ _ hown hgrow
        obtain ⟨a5, c5, rfl, hX5, hB5, hO5⟩ := Z
        have c5' := hB5.c
        have f5' := hB5.f
        have HZ5 := hide (And.intro (hX5.other hz 0 (.slice a5 (j + 1) c5)) (And.intro (hB5.set (.slice a5 (j + 1) c5)) (And.intro (ownv_other hO5 hB5 (.slice a5 (j + 1) c5)) (show (M ++ [f]).length = j + 1 by rw [List.length_append, unhide HLEN]; rfl))))
        clear hown hgrow hX5 hB5 hO5 HST HRW
        go_wp2_with fail
        go_roundg (fs.length - (k + 1))
        case measure => omega
        case rel => exact ⟨k + 1, j + 1, a5, c5, rfl, by omega, by omega, Nat.le_refl _, by rw [unhide HM, if_neg (unhide HN)]; exact HZ5⟩
    · obtain rfl : k = fs.length := by omega
      have hki : ¬ ((fs.length : Int) < (fs.length : Int)) := by omega
      have cr := (unhide hI).1.cr
      have fr := (unhide hI).1.fr
      have hrl : restD name (fs.take fs.length) = restD name fs := by rw [List.take_length]
      rw [hrl] at hI
      have hlen := (unhide hI).2.2.2
      have HLEN := hide hlen
      by_cases he : j = fs.length
      · have h1 : remE name fs = 7 := by rw [remE, if_pos (by rw [hlen, he])]
        have h2 : remD name fs = [] := by rw [remD, if_pos (by rw [hlen, he])]
        have H12 := hide (And.intro h1 h2)
        subst he
        clear hlen h1 h2
        go_wp2_with fail
        exact bodyPost_ret (v := .tuple #[.agg #[.slice none 0 0], .int .i64 7]) (by simp [results, Try.results20, go_sem, cr]) rfl ⟨_, by rw [(unhide H12).1], by rw [(unhide H12).2]; exact DiskV.nil _, (unhide hI).1.below.setCell (by simp) _⟩
      · have h1 : remE name fs = 0 := by rw [remE, if_neg (by rw [hlen]; exact he)]
        have h2 : remD name fs = restD name fs := by rw [remD, if_neg (by rw [hlen]; exact he)]
        have H12 := hide (And.intro h1 h2)
        clear h1 h2
        have hei : ¬ ((j : Int) = (fs.length : Int)) := by omega
        clear hlen
        go_wp2_with fail
        refine bodyPost_ret (v := .tuple #[.agg #[.slice a1 j c1], .int .i64 0]) (by simp [results, Try.results20, go_sem, cr]) rfl ⟨_, by rw [(unhide H12).1], ?_, (unhide hI).1.below.setCell (by simp) _⟩
        rw [(unhide H12).2]
        refine OwnV.disk (B := 0) ?_
        rcases (unhide hI).2.2.1 with h | ⟨q, cq, e, h1, h2⟩
        · exact .inl h
        · exact .inr ⟨q, cq, e, Nat.zero_le _, h2.other (by show q ≠ w.heap.size + 1; omega) _⟩

set_option maxHeartbeats 1000000 in
theorem rremove_bad (v : Value) (fs : List DF) (name : List UInt8) (w : World) (hv : DiskV w v fs) (hs : Slim fs) (hl : fs.length ≤ 140737488355328) (hg : goodD fs = false) :
    Calls Try.prog 20 #[.agg #[v], .string ⟨name.toArray⟩] w fun e w' => e = .returned (.tuple #[.agg #[.slice none 0 0], .int .i64 3]) ∧ Below w.heap.size w w' := by
  have CG := fun W (hW : Below w.heap.size w W) => rgood_any v fs W (hv.next hW) hs hl
  obtain ⟨a, n, c, rfl⟩ := disk_slice hv
  rw [hg] at CG
  clear hv hs hg
  go_enter Try.func20, Try.ntmps20
  go_wp2_with fail
  have X := Boxes.start w (.slice a n c) 24 24
  refine (CG _ X.below).mono ?_
  rintro e w1 ⟨rfl, hb1⟩
  have X1 := X.next hb1
  have cr := X1.cr
  have fr := X1.fr
  have HB := hide X1.below
  clear CG hb1 X X1
  go_wp2_with fail
  exact bodyPost_ret (v := .tuple #[.agg #[.slice none 0 0], .int .i64 3]) (by simp [results, Try.results20, go_sem, cr]) rfl ⟨rfl, (unhide HB).setCell (by simp) _⟩

theorem both_remove (fs : List DF) (name : List UInt8) (hs : Slim fs) (hl : fs.length ≤ 140737488355328) : ∃ E d, d.length ≤ 1000000 ∧ GivesD 19 (fun x => #[x, .string ⟨name.toArray⟩]) fs d E ∧ GivesD 20 (fun x => #[x, .string ⟨name.toArray⟩]) fs d E := by
  rcases loc_cases fs name with ⟨E, h⟩ | ⟨g, A, f, B, T⟩
  · have h' := h
    rcases h with ⟨hg, rfl⟩ | ⟨g, ⟨A, B, G⟩, rfl⟩
    · exact ⟨3, [], by simp, gives_no fun v W hv => remove_no v fs name 3 W hv hs h', gives_no fun v W hv => rremove_bad v fs name W hv hs hl hg⟩
    · refine ⟨7, [], by simp, gives_no fun v W hv => remove_no v fs name 7 W hv hs h', fun v W hv => ?_⟩
      have := rremove_yes v fs name W hv hs g
      simp only [remE, remD, G.rest, if_true] at this
      refine this.mono fun e w' ⟨v', he, hd, hb⟩ => ?_
      obtain ⟨a, n, c, rfl⟩ := disk_slice hd
      exact ⟨a, n, c, he, hd, hb⟩
  · have hne : ¬ ((A ++ B).length = fs.length) := by rw [T.eq]; simp
    refine ⟨0, A ++ B, by have := g.few; rw [T.eq] at this; simp at this ⊢; omega, gives_own fun v W hv => remove_there v fs A B f name W hv hs g T, gives_disk fun v W hv => ?_⟩
    have := rremove_yes v fs name W hv hs g
    simp only [remE, remD, T.rest, if_neg hne] at this
    exact this
end Go.Proofs.Ytbadhnmljlmefaa
