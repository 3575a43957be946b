/-
  What Write, Sync, Cut and Remove of one file leave of another one.
-/
import Derived.Test.YtbadhnmljlmefabDStore
import Derived.Test.YtbadhnmljlmefabDCut
namespace Go.Proofs.Ytbadhnmljlmefab
open Go.RowKit

theorem look_skip {A B : List DF} {f : DF} {o : List UInt8} (h : f.n ≠ o) : lookD (A ++ f :: B) o = lookD (A ++ B) o := by
  simp [lookD, List.find?_append, h]
theorem readD_same {d d' : List DF} {o : List UInt8} (g : GoodD d) (g' : GoodD d') (h : lookD d o = lookD d' o) : readD d o = readD d' o := by
  simp only [readD, goodD_true.2 g, goodD_true.2 g', if_true, h]
/-- an answer of a call that was to change a file: an error, or a good disk on which another file reads as R -/
def Fine (o : List UInt8) (R : List UInt8 × Int) (W : World) (v : Value) (E : Int) : Prop := (E != 0) = true ∨ (E = 0 ∧ ∃ d, DiskV W v d ∧ GoodD d ∧ readD d o = R)
theorem Fine.next {o : List UInt8} {R : List UInt8 × Int} {W V : World} {v : Value} {E : Int} (h : Fine o R W v E) (hb : Below W.heap.size W V) : Fine o R V v E := by
  rcases h with h | ⟨h, d, h1, h2, h3⟩
  · exact .inl h
  · exact .inr ⟨h, d, h1.next hb, h2, h3⟩
theorem fine_no {P : Program} {f : FuncId} {args : Array Value} {W : World} {E : Int} {o : List UInt8} {R : List UInt8 × Int} (hE : (E != 0) = true) (h : Calls P f args W fun e w' => e = .returned (.tuple #[.agg #[.slice none 0 0], .int .i64 E]) ∧ Below W.heap.size W w') :
    Calls P f args W fun e w' => ∃ a n c E, e = .returned (.tuple #[.agg #[.slice a n c], .int .i64 E]) ∧ Hid (Fine o R w' (.slice a n c) E) ∧ Below W.heap.size W w' :=
  h.mono fun _ _ ⟨he, hb⟩ => ⟨_, _, _, E, he, .inl hE, hb⟩
theorem fine_yes {P : Program} {f : FuncId} {args : Array Value} {W : World} {d : List DF} {o : List UInt8} {R : List UInt8 × Int} (g : GoodD d) (hr : readD d o = R) (h : Calls P f args W fun e w' => ∃ v', e = .returned (.tuple #[.agg #[v'], .int .i64 0]) ∧ OwnV w' W.heap.size v' d ∧ Below W.heap.size W w') :
    Calls P f args W fun e w' => ∃ a n c E, e = .returned (.tuple #[.agg #[.slice a n c], .int .i64 E]) ∧ Hid (Fine o R w' (.slice a n c) E) ∧ Below W.heap.size W w' :=
  h.mono fun _ _ ⟨v', he, ho, hb⟩ => by
    obtain ⟨a, n, c, rfl⟩ := disk_slice ho.disk
    exact ⟨a, n, c, 0, he, .inr ⟨rfl, d, ho.disk, g, hr⟩, hb⟩

theorem fine_write (v : Value) (fs : List DF) (name o x : List UInt8) (hno : name ≠ o) (hs : Slim fs) (hnm : name.length ≤ 140737488355328) (hx : x.length ≤ 140737488355328) (w : World) (hv : DiskV w v fs) :
    Calls Try.prog 7 #[.agg #[v], .string ⟨name.toArray⟩, .string ⟨x.toArray⟩] w fun e w' => ∃ a n c E, e = .returned (.tuple #[.agg #[.slice a n c], .int .i64 E]) ∧ Hid (Fine o (readD fs o) w' (.slice a n c) E) ∧ Below w.heap.size w w' := by
  rcases write_any v fs name x hs hnm hx with ⟨E, hE, h⟩ | ⟨A, f', B, s0, t0, Wr, h⟩
  · exact fine_no hE (h w hv)
  · refine fine_yes Wr.after (readD_same Wr.after Wr.good ?_) (h w hv)
    rw [look_skip (by rw [Wr.eq]; exact hno)]
    rcases Wr.old with ⟨f, T, _⟩ | ⟨G, _⟩
    · rw [T.eq, look_skip (by rw [T.nm]; exact hno)]
    · rw [G.eq]
theorem fine_sync (v : Value) (fs : List DF) (name o : List UInt8) (hno : name ≠ o) (hs : Slim fs) (w : World) (hv : DiskV w v fs) :
    Calls Try.prog 8 #[.agg #[v], .string ⟨name.toArray⟩] w fun e w' => ∃ a n c E, e = .returned (.tuple #[.agg #[.slice a n c], .int .i64 E]) ∧ Hid (Fine o (readD fs o) w' (.slice a n c) E) ∧ Below w.heap.size w w' := by
  rcases loc_cases fs name with ⟨E, h⟩ | ⟨g, A, f, B, T⟩
  · exact fine_no (locNo_ne h) (sync_no v fs name E w hv hs h)
  · have g' : GoodD (A ++ ⟨f.n, f.s ++ f.t, []⟩ :: B) := good_set (f := f) (by rw [← T.eq]; exact g) rfl (by have := fileOk_len (T.ok g); simp; omega)
    refine fine_yes g' (readD_same g' g ?_) (sync_there v fs A B f name w hv hs g T)
    rw [look_skip (by show f.n ≠ o; rw [T.nm]; exact hno), T.eq, look_skip (by rw [T.nm]; exact hno)]
theorem fine_cut (v : Value) (fs : List DF) (name o : List UInt8) (n : Int) (hno : name ≠ o) (hs : Slim fs) (w : World) (hv : DiskV w v fs) :
    Calls Try.prog 9 #[.agg #[v], .string ⟨name.toArray⟩, .int .i64 n] w fun e w' => ∃ a n c E, e = .returned (.tuple #[.agg #[.slice a n c], .int .i64 E]) ∧ Hid (Fine o (readD fs o) w' (.slice a n c) E) ∧ Below w.heap.size w w' := by
  rcases cut_cases fs name n with ⟨E, h⟩ | ⟨g, A, f, B, T, k, rfl, hk⟩
  · exact fine_no (cutNo_ne h) (cutNo_any v fs name n E w hv hs h)
  · have g' : GoodD (A ++ ⟨f.n, (f.s ++ f.t).take k, []⟩ :: B) := good_set (f := f) (by rw [← T.eq]; exact g) rfl (by have := fileOk_len (T.ok g); simp; omega)
    refine fine_yes g' (readD_same g' g ?_) (cut_there v fs A B f name k w hv hs g T hk)
    rw [look_skip (by show f.n ≠ o; rw [T.nm]; exact hno), T.eq, look_skip (by rw [T.nm]; exact hno)]
theorem fine_remove (v : Value) (fs : List DF) (name o : List UInt8) (hno : name ≠ o) (hs : Slim fs) (w : World) (hv : DiskV w v fs) :
    Calls Try.prog 10 #[.agg #[v], .string ⟨name.toArray⟩] w fun e w' => ∃ a n c E, e = .returned (.tuple #[.agg #[.slice a n c], .int .i64 E]) ∧ Hid (Fine o (readD fs o) w' (.slice a n c) E) ∧ Below w.heap.size w w' := by
  rcases loc_cases fs name with ⟨E, h⟩ | ⟨g, A, f, B, T⟩
  · exact fine_no (locNo_ne h) (remove_no v fs name E w hv hs h)
  · have g' : GoodD (A ++ B) := good_del (f := f) (by rw [← T.eq]; exact g)
    refine fine_yes g' (readD_same g' g ?_) (remove_there v fs A B f name w hv hs g T)
    rw [T.eq, look_skip (by rw [T.nm]; exact hno)]
end Go.Proofs.Ytbadhnmljlmefab
