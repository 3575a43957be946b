/-
  What aviaryref.Crash and aviarylaw.here answer: the walks.
-/
import Derived.Test.YtbadhnmljlmefaaDRefB
namespace Go.Proofs.Ytbadhnmljlmefaa
open Go.RowKit

set_option maxHeartbeats 1000000 in
theorem rcrash_no (v : Value) (fs : List DF) (keep : Int) (w : World) (hv : DiskV w v fs) (hs : Slim fs) (hl : fs.length ≤ 140737488355328) (h : goodD fs = false ∨ keep < 0) :
    Calls Try.prog 25 #[.agg #[v], .int .i64 keep] w fun e w' => e = .returned (.tuple #[.agg #[.slice none 0 0], .int .i64 3]) ∧ Below w.heap.size w w' := by
  obtain ⟨a, n0, c, rfl⟩ := disk_slice hv
  have C := fun W (hW : Below w.heap.size w W) => rgood_any _ fs W (hv.next hW) hs hl
  clear hv hs
  cases hg : goodD fs with
  | false =>
    rw [hg] at C
    clear hg h
    go_enter Try.func25, Try.ntmps25
    go_wp2_with fail
    have X := Boxes.start w (.slice a n0 c) 24 24
    refine (C _ X.below).mono ?_
    rintro e w1 ⟨rfl, hb1⟩
    have X1 := X.next hb1
    have HB := hide X1.below
    have c1 := X1.cr
    have f1 := X1.fr
    clear C hb1 X X1
    go_wp2_with fail
    exact bodyPost_ret (v := .tuple #[.agg #[.slice none 0 0], .int .i64 3]) (by simp [results, Try.results25, go_sem, c1]) rfl ⟨rfl, (unhide HB).setCell (by simp) _⟩
  | true =>
    rw [hg] at C h
    have hk : keep < 0 := by rcases h with h | h; · cases h
                             · exact h
    clear hg h
    go_enter Try.func25, Try.ntmps25
    go_wp2_with fail
    have X := Boxes.start w (.slice a n0 c) 24 24
    refine (C _ X.below).mono ?_
    rintro e w1 ⟨rfl, hb1⟩
    have X1 := X.next hb1
    have HB := hide X1.below
    have c1 := X1.cr
    have f1 := X1.fr
    clear C hb1 X X1
    go_wp2_with fail
    exact bodyPost_ret (v := .tuple #[.agg #[.slice none 0 0], .int .i64 3]) (by simp [results, Try.results25, go_sem, c1]) rfl ⟨rfl, (unhide HB).setCell (by simp) _⟩

theorem map_take_succ {α β : Type} (g : α → β) {l : List α} {k : Nat} {x : α} (h : l[k]? = some x) : (l.take (k + 1)).map g = (l.take k).map g ++ [g x] := by
  obtain ⟨hk, rfl⟩ := List.getElem?_eq_some_iff.1 h
  rw [List.take_succ_eq_append_getElem hk, List.map_append]
  rfl

theorem one_new (W : World) (x : DF) (b : Nat) (h : b = W.heap.size) : One (W.alloc (.cells (fcells x).toArray 41)) b x := by subst h; exact heap_alloc_new W _
theorem ownv_other {W : World} {B k : Nat} {v u : Value} {fs : List DF} (h : OwnV W B v fs) (hb : BoxAt W k u) (u' : Value) : OwnV (W.setCell ⟨k, 0, none⟩ u') B v fs := by
  rcases h with h | ⟨g, c, e, h1, h2⟩
  · exact .inl h
  · exact .inr ⟨g, c, e, h1, h2.other (hb.ne h2) _⟩

set_option maxRecDepth 10000 in
set_option maxHeartbeats 2000000 in
theorem rcrash_yes (v : Value) (fs : List DF) (keep : Nat) (w : World) (hv : DiskV w v fs) (hs : Slim fs) (g : GoodD fs) :
    Calls Try.prog 25 #[.agg #[v], .int .i64 keep] w fun e w' => ∃ v', e = .returned (.tuple #[.agg #[v'], .int .i64 0]) ∧ DiskV w' v' (fs.map (crashF keep)) ∧ Below w.heap.size w w' := by
  obtain ⟨i0, hi0, hz0, hz1, hz2⟩ := info_file
  have C := fun W (hW : Below w.heap.size w W) => rgood_any _ fs W (hv.next hW) hs (by have := g.few; omega)
  rw [goodD_true.2 g] at C
  have hfew := g.few
  have hk0 : ¬ ((keep : Int) < 0) := by omega
  have HG := hide g
  obtain ⟨a, c, rfl, hrow⟩ : ∃ a c, v = .slice a fs.length c ∧ (0 < fs.length → ∃ b off, a = some ⟨b, off, none⟩ ∧ b < w.heap.size ∧ RowAt w b off (cellsF fs)) := by
    rcases hv with ⟨a, cap, rfl, rfl, _⟩ | ⟨b, off, cap, rfl, _, _, hb, _, hr⟩
    · exact ⟨a, cap, rfl, fun h => by simp at h⟩
    · exact ⟨_, cap, rfl, fun _ => ⟨b, off, rfl, hb, hr⟩⟩
  have HR := hide hrow
  clear hv hs g hrow
  go_enter Try.func25, Try.ntmps25
  go_wp2_with fail
  have X := Boxes.start w (.slice a fs.length c) 24 24
  refine (C _ X.below).mono ?_
  rintro e w1 ⟨rfl, hb1⟩
  have X1 := (X.next hb1).alloc (.cells #[.slice none 0 0] 24)
  have HX := hide X1
  have cd := X1.cd
  have hz := (X.next hb1).size
  have HO := hide (BoxAt.new w1 (.slice none 0 0))
  have hsz : (w1.alloc (.cells #[.slice none 0 0] 24)).heap.size = w1.heap.size + 1 := by simp
  have HZ := hide hsz
  clear C hb1 X X1 hsz
  go_wp2_with fail
  generalize w1.alloc (.cells #[.slice none 0 0] 24) = W1 at *
  go_loopg [21] fs.length (fun kx s wr => ∃ (k : Nat) (a1 : Option Addr) (c1 : Nat), s = .int .i64 k ∧ k ≤ fs.length ∧ fs.length - k ≤ kx ∧ Hid (Boxes w wr (.slice a fs.length c) ∧ BoxAt wr w1.heap.size (.slice a1 k c1) ∧ OwnV wr (w1.heap.size + 1) (.slice a1 k c1) ((fs.take k).map (crashF keep))))
  case atStart => exact ⟨0, none, 0, rfl, Nat.zero_le _, by omega, hide ⟨unhide HX, unhide HO, .inl ⟨rfl, rfl⟩⟩⟩
  case round =>
    obtain ⟨k, a1, c1, rfl, hk, hkx, hI⟩ := hrel
    by_cases hlt : k < fs.length
    · obtain ⟨b, off, rfl, hb, hr⟩ := unhide HR (by omega)
      obtain ⟨f, hf⟩ : ∃ f, fs[k]? = some f := ⟨_, List.getElem?_eq_getElem hlt⟩
      have r := hr.kept (unhide hI).1.below hb
      have e0 := r.c0 hf
      have e1 := r.c1 hf
      have e2 := r.c2 hf
      have hfo := fileOk_len ((unhide HG).ok f (List.mem_of_getElem? hf))
      have hbw : b < wr.heap.size := Nat.lt_of_lt_of_le hb (unhide hI).1.below.size
      have hlti : (k : Int) < (fs.length : Int) := by omega
      have HM := hide (map_take_succ (crashF keep) hf)
      clear r hr hf
      obtain ⟨M, hM⟩ : ∃ M, (fs.take k).map (crashF keep) = M := ⟨_, rfl⟩
      rw [hM] at hI HM
      have co := (unhide hI).2.1.c
      have fo := (unhide hI).2.1.f
      have ho1 : w1.heap.size < wr.heap.size := by
        have := (unhide hI).2.1
        unfold BoxAt at this
        exact (Array.getElem?_eq_some_iff.1 this).1
      have hklen : M.length = k := by rw [← hM]; simp; omega
      have hrw : ∀ O1 O2, ∀ W, W = (wr.alloc O1).alloc O2 → W.ownsRow (w1.heap.size + 1) 41 3 (.slice a1 k c1) k (cellsF M) := fun O1 O2 W e => by
        subst e
        have h := (((unhide hI).2.2.next ((Below.refl _ _).alloc (Nat.le_refl _) O1)).next ((Below.refl _ _).alloc (Nat.le_refl _) O2)).row
        rwa [hklen] at h
      have HRW := hide hrw
      obtain ⟨P, hP⟩ : ∃ P, f.s ++ f.t.take keep = P := ⟨_, rfl⟩
      have hPl : P.length ≤ 1048576 := by rw [← hP]; simp; omega
      have hcr : crashF keep f = ⟨f.n, P, []⟩ := by rw [crashF, hP]
      rw [hcr] at HM
      have hst : ∀ O1 O2 v' w5, w5.ownsRow (w1.heap.size + 1) 41 3 v' (k + 1) (cellsF M ++ fcells ⟨f.n, P, []⟩) → ((wr.alloc O1).alloc O2).grownBy w5 (Value.slice a1 k c1).ownBlock →
          ∃ a5 c5, v' = .slice a5 (k + 1) c5 ∧ Boxes w w5 (.slice (some ⟨b, off, none⟩) fs.length c) ∧ BoxAt w5 w1.heap.size (.slice a1 k c1) ∧ OwnV w5 (w1.heap.size + 1) (.slice a5 (k + 1) c5) (M ++ [⟨f.n, P, []⟩]) := fun O1 O2 v' w5 hown hgrow => by
        have e1 : (M ++ [(⟨f.n, P, []⟩ : DF)]).length = k + 1 := by rw [List.length_append, hklen]; rfl
        have ho : OwnV w5 (w1.heap.size + 1) v' (M ++ [⟨f.n, P, []⟩]) := OwnV.of_row (by rw [e1, cellsF_append]; simpa [cellsF] using hown)
        obtain ⟨a5, c5, rfl, _⟩ := own_slice ho
        have hal1 := (Below.refl wr.heap.size wr).alloc (Nat.le_refl _) O1
        have hal2 := (Below.refl (wr.alloc O1).heap.size (wr.alloc O1)).alloc (Nat.le_refl _) O2
        have hbl : ∀ q, (Value.slice a1 k c1).ownBlock = some q → w1.heap.size + 1 ≤ q := fun q e => (own_block (unhide hI).2.2 q e).1
        refine ⟨a5, c5, by rw [e1], (((unhide hI).1.next hal1).next hal2).grownO hgrow (fun q e => by have := hbl q e; omega), (((unhide hI).2.1.next hal1).next hal2).grown hgrow (fun e => by have := hbl _ e.symm; omega), by rw [e1] at ho; exact ho⟩
      have HST := hide (fun v' w5 O1 O2 h1 h2 => hst O1 O2 v' w5 h1 h2)
      have hc2 : ∀ O1 : Obj, ∀ j u, (fcells ⟨f.n, P, []⟩)[j]? = some u → ((wr.alloc O1).alloc (.cells #[.string ⟨f.n.toArray⟩, .string ⟨P.toArray⟩, .string ⟨#[]⟩] 41)).cell? ((⟨wr.heap.size + 1, 0, none⟩ : Addr).add j) = some u := fun O1 j u hj => by
        rw [Addr.add_lit]
        exact (one_new (wr.alloc O1) ⟨f.n, P, []⟩ (wr.heap.size + 1) (by simp)).row j u hj
      have HC2 := hide hc2
      have h4 : Hid (k + 1 ≤ maxLen) := by unfold Hid; simp only [maxLen]; omega
      have h5 : Hid ((k + 1) * 48 ≤ 140737488355328) := by unfold Hid; omega
      have h6 : Hid (∀ O1 O2, w1.heap.size + 1 ≤ ((wr.alloc O1).alloc O2).heap.size) := fun O1 O2 => by simp; omega
      clear hrw hst hklen hcr hc2 hM
      have hP2 := hide hP
      by_cases hgt : keep < f.t.length
      · have hgi : (keep : Int) < (f.t.length : Int) := by omega
        have hex : (ByteArray.mk f.t.toArray).extract 0 keep = ⟨(f.t.take keep).toArray⟩ := ex_front _ _
        have hcat : (ByteArray.mk f.s.toArray ++ ByteArray.mk (f.t.take keep).toArray) = ⟨P.toArray⟩ := by rw [cat_one, hP]
        have hcl : ¬ 9223372036854775807 < f.s.length + (f.t.take keep).length := by simp; omega
        clear hP
        generalize f.t.take keep = T at hex hcat hcl
        go_wp2_with (at_builtin; refine wpList_append_own _ rfl _ _ 22 rfl (w1.heap.size + 1) 41 i0 _ 3 48 Try.underlying22 hi0 hz0 hz1 hz2 rfl (by decide) _ k (cellsF M) rfl (unhide HRW _ _ _ rfl) ⟨wr.heap.size + 1, 0, none⟩ 1 1 (fcells ⟨f.n, P, []⟩) rfl rfl (unhide HC2 _) (fcells_one _) (unhide h4) (unhide h5) (unhide h6 _ _) ?_)
        intro v' w5 hown hgrow _
        have Z := unhide HST _ _ _ _ hown hgrow
        obtain ⟨a5, c5, rfl, hX5, hB5, hO5⟩ := Z
        have c5' := hB5.c
        have f5' := hB5.f
        have HZ5 := hide (And.intro (hX5.other hz 0 (.slice a5 (k + 1) c5)) (And.intro (hB5.set (.slice a5 (k + 1) c5)) (ownv_other hO5 hB5 (.slice a5 (k + 1) c5))))
        clear hown hgrow hX5 hB5 hO5 HST HRW
        go_wp2_with fail
        go_roundg (fs.length - (k + 1))
        case measure => omega
        case rel => exact ⟨k + 1, a5, c5, rfl, by omega, Nat.le_refl _, by rw [unhide HM]; exact HZ5⟩
      · have hgi : ¬ ((keep : Int) < (f.t.length : Int)) := by omega
        have hcat : (ByteArray.mk f.s.toArray ++ ByteArray.mk f.t.toArray) = ⟨P.toArray⟩ := by rw [cat_one, ← hP, List.take_of_length_le (by omega)]
        have hcl : ¬ 9223372036854775807 < f.s.length + f.t.length := by omega
        clear hP
        go_wp2_with (at_builtin; refine wpList_append_own _ rfl _ _ 22 rfl (w1.heap.size + 1) 41 i0 _ 3 48 Try.underlying22 hi0 hz0 hz1 hz2 rfl (by decide) _ k (cellsF M) rfl (unhide HRW _ _ _ rfl) ⟨wr.heap.size + 1, 0, none⟩ 1 1 (fcells ⟨f.n, P, []⟩) rfl rfl (unhide HC2 _) (fcells_one _) (unhide h4) (unhide h5) (unhide h6 _ _) ?_)
        intro v' w5 hown hgrow _
        have Z := unhide HST _ _ _ _ hown hgrow
        obtain ⟨a5, c5, rfl, hX5, hB5, hO5⟩ := Z
        have c5' := hB5.c
        have f5' := hB5.f
        have HZ5 := hide (And.intro (hX5.other hz 0 (.slice a5 (k + 1) c5)) (And.intro (hB5.set (.slice a5 (k + 1) c5)) (ownv_other hO5 hB5 (.slice a5 (k + 1) c5))))
        clear hown hgrow hX5 hB5 hO5 HST HRW
        go_wp2_with fail
        go_roundg (fs.length - (k + 1))
        case measure => omega
        case rel => exact ⟨k + 1, a5, c5, rfl, by omega, Nat.le_refl _, by rw [unhide HM]; exact HZ5⟩
    · obtain rfl : k = fs.length := by omega
      have hki : ¬ ((fs.length : Int) < (fs.length : Int)) := by omega
      have co := (unhide hI).2.1.c
      have cr := (unhide hI).1.cr
      have fr := (unhide hI).1.fr
      have ho := (unhide hI).2.2
      rw [List.take_length] at ho
      have HO2 := hide ho
      clear ho
      go_wp2_with fail
      refine bodyPost_ret (v := .tuple #[.agg #[.slice a1 fs.length c1], .int .i64 0]) (by simp [results, Try.results25, go_sem, cr]) rfl ⟨_, rfl, ?_, (unhide hI).1.below.setCell (by simp) _⟩
      refine OwnV.disk (B := 0) ?_
      rcases unhide HO2 with h | ⟨q, cq, e, h1, h2⟩
      · exact .inl h
      · exact .inr ⟨q, cq, e, Nat.zero_le _, h2.other (by show q ≠ w.heap.size + 1; omega) _⟩
end Go.Proofs.Ytbadhnmljlmefaa
