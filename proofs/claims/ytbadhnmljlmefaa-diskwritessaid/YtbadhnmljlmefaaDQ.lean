/-
  What the disk's calls come to, as plain lists: good disks stay good; where a name stands behind a change; what is read. No program is named here.
-/
import Derived.Test.YtbadhnmljlmefaaDWrite
import Derived.Test.YtbadhnmljlmefaaDCrash
namespace Go.Proofs.Ytbadhnmljlmefaa
open Go.RowKit

theorem good_slim {fs : List DF} (g : GoodD fs) : Slim fs := fun f hf => by
  have h := g.ok f hf
  have h1 := fileOk_len h
  have h2 := fileOk_named h
  simp only [namedB, Bool.and_eq_true, decide_eq_true_eq] at h2
  omega
theorem good_set {A B : List DF} {f f' : DF} (g : GoodD (A ++ f :: B)) (hn : f'.n = f.n) (hl : f'.s.length + f'.t.length ≤ 1048576) : GoodD (A ++ f' :: B) := by
  refine ⟨by simpa using g.few, ?_, ?_⟩
  · intro x hx
    rcases List.mem_append.1 hx with h | h
    · exact g.ok x (by simp [h])
    · rcases List.mem_cons.1 h with rfl | h
      · have := fileOk_named (g.ok f (by simp))
        simp [fileOk, hn, this, hl]
      · exact g.ok x (by simp [h])
  · have h := g.asc
    unfold Asc at h ⊢
    rw [List.pairwise_append, List.pairwise_cons] at h ⊢
    refine ⟨h.1, ⟨fun b hb => by rw [hn]; exact h.2.1.1 b hb, h.2.1.2⟩, fun a ha b hb => ?_⟩
    rcases List.mem_cons.1 hb with rfl | hb
    · rw [hn]; exact h.2.2 a ha f (by simp)
    · exact h.2.2 a ha b (by simp [hb])
theorem good_ins {fs A B : List DF} {name : List UInt8} (g : GoodD fs) (G : Gap fs A B name) (hn : namedB name = true) (hl : fs.length < 16) {f' : DF} (hf : f'.n = name) (hs : f'.s.length + f'.t.length ≤ 1048576) : GoodD (A ++ f' :: B) := by
  have g' := g
  rw [G.eq] at g' hl
  refine ⟨by simp at hl ⊢; omega, ?_, ?_⟩
  · intro x hx
    rcases List.mem_append.1 hx with h | h
    · exact g'.ok x (by simp [h])
    · rcases List.mem_cons.1 h with rfl | h
      · simp [fileOk, hf, hn, hs]
      · exact g'.ok x (by simp [h])
  · have h := g'.asc
    unfold Asc at h ⊢
    rw [List.pairwise_append] at h
    rw [List.pairwise_append, List.pairwise_cons]
    refine ⟨h.1, ⟨fun b hb => by rw [hf]; exact G.hi b hb, h.2.1⟩, fun a ha b hb => ?_⟩
    rcases List.mem_cons.1 hb with rfl | hb
    · rw [hf]; exact G.lo a ha
    · exact h.2.2 a ha b hb
theorem good_del {A B : List DF} {f : DF} (g : GoodD (A ++ f :: B)) : GoodD (A ++ B) := by
  refine ⟨by have := g.few; simp at this ⊢; omega, fun x hx => g.ok x (by rcases List.mem_append.1 hx with h | h <;> simp [h]), ?_⟩
  have h := g.asc
  unfold Asc at h ⊢
  exact h.sublist (List.Sublist.append (List.Sublist.refl A) (List.sublist_cons_self f B))
theorem crashF_len (k : Nat) (f : DF) : (crashF k f).s.length + (crashF k f).t.length ≤ f.s.length + f.t.length := by
  simp [crashF]; omega
theorem good_crash {fs : List DF} (g : GoodD fs) (k : Nat) : GoodD (fs.map (crashF k)) := by
  refine ⟨by simpa using g.few, ?_, ?_⟩
  · intro x hx
    obtain ⟨f, hf, rfl⟩ := List.mem_map.1 hx
    have h := g.ok f hf
    have h1 := fileOk_len h
    have h2 := fileOk_named h
    have h3 := crashF_len k f
    simp only [fileOk, Bool.and_eq_true, decide_eq_true_eq]
    exact ⟨h2, by omega⟩
  · have h := g.asc
    unfold Asc at h ⊢
    rw [List.pairwise_map]
    exact h
theorem There.set {fs A B : List DF} {f : DF} {name : List UInt8} (T : There fs A f B name) {f' : DF} (hf : f'.n = name) : There (A ++ f' :: B) A f' B name := ⟨rfl, hf, T.lo, T.hi⟩
theorem Gap.ins {fs A B : List DF} {name : List UInt8} (G : Gap fs A B name) {f' : DF} (hf : f'.n = name) : There (A ++ f' :: B) A f' B name := ⟨rfl, hf, G.lo, G.hi⟩
theorem There.del {fs A B : List DF} {f : DF} {name : List UInt8} (T : There fs A f B name) : Gap (A ++ B) A B name := ⟨rfl, T.lo, T.hi⟩
theorem There.crash {fs A B : List DF} {f : DF} {name : List UInt8} (T : There fs A f B name) (k : Nat) : There (fs.map (crashF k)) (A.map (crashF k)) (crashF k f) (B.map (crashF k)) name :=
  ⟨by rw [T.eq]; simp, T.nm, fun a ha => by obtain ⟨x, hx, rfl⟩ := List.mem_map.1 ha; exact T.lo x hx, fun b hb => by obtain ⟨x, hx, rfl⟩ := List.mem_map.1 hb; exact T.hi x hx⟩

/- what is read -/
def lookD (fs : List DF) (name : List UInt8) : Option DF := fs.find? fun f => decide (f.n = name)
theorem There.look {fs A B : List DF} {f : DF} {name : List UInt8} (T : There fs A f B name) : lookD fs name = some f := by
  rw [lookD, T.eq, List.find?_append, List.find?_eq_none.2 (fun a ha => by simp [bl_ne (T.lo a ha)])]
  simp [T.nm]
theorem Gap.look {fs A B : List DF} {name : List UInt8} (G : Gap fs A B name) : lookD fs name = none := by
  rw [lookD, G.eq, List.find?_append, List.find?_eq_none.2 (fun a ha => by simp [bl_ne (G.lo a ha)]), List.find?_eq_none.2 (fun b hb => by simp [(bl_ne (G.hi b hb)).symm])]
  rfl
noncomputable def readD (fs : List DF) (name : List UInt8) : List UInt8 × Int := if goodD fs = true then match lookD fs name with
  | some f => (f.s ++ f.t, 0)
  | none => ([], 7) else ([], 3)
theorem readD_bad {fs : List DF} {name : List UInt8} (h : goodD fs = false) : readD fs name = ([], 3) := by simp [readD, h]
theorem readD_there {fs A B : List DF} {f : DF} {name : List UInt8} (g : GoodD fs) (T : There fs A f B name) : readD fs name = (f.s ++ f.t, 0) := by simp [readD, goodD_true.2 g, T.look]
theorem readD_gap {fs A B : List DF} {name : List UInt8} (g : GoodD fs) (G : Gap fs A B name) : readD fs name = ([], 7) := by simp [readD, goodD_true.2 g, G.look]
theorem readD_len (fs : List DF) (name : List UInt8) : (readD fs name).1.length ≤ 1048576 := by
  rcases loc_cases fs name with ⟨E, ⟨h, _⟩ | ⟨g, ⟨A, B, G⟩, _⟩⟩ | ⟨g, A, f, B, T⟩
  · rw [readD_bad h]; simp
  · rw [readD_gap g G]; simp
  · rw [readD_there g T]; have := fileOk_len (T.ok g); simp; omega
theorem read_any (v : Value) (fs : List DF) (name : List UInt8) (w : World) (hv : DiskV w v fs) (hs : Slim fs) :
    Calls Try.prog 22 #[.agg #[v], .string ⟨name.toArray⟩] w fun e w' => e = .returned (.tuple #[.string ⟨(readD fs name).1.toArray⟩, .int .i64 (readD fs name).2]) ∧ Below w.heap.size w w' := by
  rcases loc_cases fs name with ⟨E, h⟩ | ⟨g, A, f, B, T⟩
  · have h' := read_no v fs name E w hv hs h
    rcases h with ⟨h, rfl⟩ | ⟨g, ⟨A, B, G⟩, rfl⟩
    · rw [readD_bad h]; exact h'
    · rw [readD_gap g G]; exact h'
  · rw [readD_there g T]; exact read_there v fs A B f name w hv hs g T

/- what is written -/
theorem write_cases (fs : List DF) (name x : List UInt8) : (∃ E, E ≠ 0 ∧ WriteNo fs name x E) ∨ (GoodD fs ∧ ∃ A f B, There fs A f B name ∧ f.s.length + f.t.length + x.length ≤ 1048576) ∨
    (GoodD fs ∧ namedB name = true ∧ fs.length < 16 ∧ (∃ A B, Gap fs A B name) ∧ x.length ≤ 1048576) := by
  cases hg : goodD fs with
  | false => exact .inl ⟨3, by decide, .inl ⟨hg, rfl⟩⟩
  | true =>
    have g := goodD_true.1 hg
    cases hn : namedB name with
    | false => exact .inl ⟨2, by decide, .inr (.inl ⟨g, hn, rfl⟩)⟩
    | true =>
      rcases where_is name fs g.asc with ⟨A, f, B, T⟩ | ⟨A, B, G⟩
      · by_cases hl : f.s.length + f.t.length + x.length ≤ 1048576
        · exact .inr (.inl ⟨g, A, f, B, T, hl⟩)
        · exact .inl ⟨1, by decide, .inr (.inr (.inr (.inl ⟨g, hn, ⟨A, f, B, T, by omega⟩, rfl⟩)))⟩
      · have := g.few
        by_cases h16 : fs.length = 16
        · exact .inl ⟨6, by decide, .inr (.inr (.inl ⟨g, hn, h16, ⟨A, B, G⟩, rfl⟩))⟩
        · by_cases hl : x.length ≤ 1048576
          · exact .inr (.inr ⟨g, rfl, by omega, ⟨A, B, G⟩, hl⟩)
          · exact .inl ⟨1, by decide, .inr (.inr (.inr (.inr ⟨g, hn, by omega, ⟨A, B, G⟩, by omega, rfl⟩)))⟩
/-- a file was written: the disk then, and what it held ahead of it -/
structure Wrote (fs : List DF) (name x : List UInt8) (A : List DF) (f' : DF) (B : List DF) (s0 t0 : List UInt8) : Prop where
  good : GoodD fs
  after : GoodD (A ++ f' :: B)
  at_ : There (A ++ f' :: B) A f' B name
  eq : f' = ⟨name, s0, t0 ++ x⟩
  old : (∃ f, There fs A f B name ∧ f.s = s0 ∧ f.t = t0) ∨ (Gap fs A B name ∧ s0 = [] ∧ t0 = [])
theorem Wrote.len {fs A B : List DF} {name x s0 t0 : List UInt8} {f' : DF} (W : Wrote fs name x A f' B s0 t0) : s0.length + t0.length + x.length ≤ 1048576 := by
  have := fileOk_len (W.after.ok f' (by simp))
  rw [W.eq] at this
  simp at this
  omega
theorem Wrote.read {fs A B : List DF} {name x s0 t0 : List UInt8} {f' : DF} (W : Wrote fs name x A f' B s0 t0) : (readD fs name).1 = s0 ++ t0 := by
  rcases W.old with ⟨f, T, h1, h2⟩ | ⟨G, h1, h2⟩
  · rw [readD_there W.good T, h1, h2]
  · rw [readD_gap W.good G, h1, h2]; rfl
theorem write_any (v : Value) (fs : List DF) (name x : List UInt8) (hs : Slim fs) (hnm : name.length ≤ 140737488355328) (hx : x.length ≤ 140737488355328) :
    (∃ E, (E != 0) = true ∧ ∀ w, DiskV w v fs → Calls Try.prog 9 #[.agg #[v], .string ⟨name.toArray⟩, .string ⟨x.toArray⟩] w fun e w' => e = .returned (.tuple #[.agg #[.slice none 0 0], .int .i64 E]) ∧ Below w.heap.size w w') ∨
    ∃ A f' B s0 t0, Wrote fs name x A f' B s0 t0 ∧ ∀ w, DiskV w v fs → Calls Try.prog 9 #[.agg #[v], .string ⟨name.toArray⟩, .string ⟨x.toArray⟩] w fun e w' => ∃ v', e = .returned (.tuple #[.agg #[v'], .int .i64 0]) ∧ OwnV w' w.heap.size v' (A ++ f' :: B) ∧ Below w.heap.size w w' := by
  rcases write_cases fs name x with ⟨E, h0, h⟩ | ⟨g, A, f, B, T, hl⟩ | ⟨g, hn, hl, ⟨A, B, G⟩, hx'⟩
  · exact .inl ⟨E, by simpa using h0, fun w hv => write_no v fs name x E w hv hs hnm hx h⟩
  · refine .inr ⟨A, ⟨f.n, f.s, f.t ++ x⟩, B, f.s, f.t, ⟨g, good_set (f := f) (by rw [← T.eq]; exact g) rfl (by simp; omega), T.set T.nm, by rw [T.nm], .inl ⟨f, T, rfl, rfl⟩⟩, fun w hv => write_there v fs A B f name x w hv hs g T hl⟩
  · exact .inr ⟨A, ⟨name, [], x⟩, B, [], [], ⟨g, good_ins g G hn hl rfl (by simpa using hx'), G.ins rfl, rfl, .inr ⟨G, rfl, rfl⟩⟩, fun w hv => write_new v fs A B name x w hv hs g hn hl G hx'⟩

end Go.Proofs.Ytbadhnmljlmefaa
