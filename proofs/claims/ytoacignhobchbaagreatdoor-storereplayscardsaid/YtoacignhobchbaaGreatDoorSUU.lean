/-
  What the disk's calls come to, as plain lists: good disks stay good; where a name stands behind a change; what is read. No program is named here.
  What it is that a call on a disk gives a disk.
  How a server lies in memory: one flat value of ten, five of them rows; what stays when other memory turns.
  Transactions as laid elements.
-/
import Derived.Test.YtoacignhobchbaaGreatDoorSUT
import Derived.Test.YtoacignhobchbaaGreatDoorSUS
import Derived.Test.YtoacignhobchbaaGreatDoorSUQ
import Derived.Test.YtoacignhobchbaaGreatDoorSUM
import Derived.Test.YtoacignhobchbaaGreatDoorSUE
namespace Go.Proofs.YtoacignhobchbaaGreatDoor
open Go.RowKit

theorem good_slim {fs : List DF} (g : GoodD fs) : Slim fs := fun f hf => by
  have h := g.ok f hf
  have h1 := fileOk_len h
  have h2 := fileOk_named h
  simp only [namedB, Bool.and_eq_true, decide_eq_true_eq] at h2
  omega
theorem good_set {A B : List DF} {f f' : DF} (g : GoodD (A ++ f :: B)) (hn : f'.n = f.n) (hl : f'.s.length + f'.t.length ≤ 1048576) : GoodD (A ++ f' :: B) := by
  refine ⟨by simpa using g.few, ?_, ?_⟩
  · intro x hx
    rcases List.mem_append.1 hx with h | h
    · exact g.ok x (by simp [h])
    · rcases List.mem_cons.1 h with rfl | h
      · have := fileOk_named (g.ok f (by simp))
        simp [fileOk, hn, this, hl]
      · exact g.ok x (by simp [h])
  · have h := g.asc
    unfold Asc at h ⊢
    rw [List.pairwise_append, List.pairwise_cons] at h ⊢
    refine ⟨h.1, ⟨fun b hb => by rw [hn]; exact h.2.1.1 b hb, h.2.1.2⟩, fun a ha b hb => ?_⟩
    rcases List.mem_cons.1 hb with rfl | hb
    · rw [hn]; exact h.2.2 a ha f (by simp)
    · exact h.2.2 a ha b (by simp [hb])
theorem good_ins {fs A B : List DF} {name : List UInt8} (g : GoodD fs) (G : Gap fs A B name) (hn : namedB name = true) (hl : fs.length < 16) {f' : DF} (hf : f'.n = name) (hs : f'.s.length + f'.t.length ≤ 1048576) : GoodD (A ++ f' :: B) := by
  have g' := g
  rw [G.eq] at g' hl
  refine ⟨by simp at hl ⊢; omega, ?_, ?_⟩
  · intro x hx
    rcases List.mem_append.1 hx with h | h
    · exact g'.ok x (by simp [h])
    · rcases List.mem_cons.1 h with rfl | h
      · simp [fileOk, hf, hn, hs]
      · exact g'.ok x (by simp [h])
  · have h := g'.asc
    unfold Asc at h ⊢
    rw [List.pairwise_append] at h
    rw [List.pairwise_append, List.pairwise_cons]
    refine ⟨h.1, ⟨fun b hb => by rw [hf]; exact G.hi b hb, h.2.1⟩, fun a ha b hb => ?_⟩
    rcases List.mem_cons.1 hb with rfl | hb
    · rw [hf]; exact G.lo a ha
    · exact h.2.2 a ha b hb
theorem There.set {fs A B : List DF} {f : DF} {name : List UInt8} (T : There fs A f B name) {f' : DF} (hf : f'.n = name) : There (A ++ f' :: B) A f' B name := ⟨rfl, hf, T.lo, T.hi⟩
theorem Gap.ins {fs A B : List DF} {name : List UInt8} (G : Gap fs A B name) {f' : DF} (hf : f'.n = name) : There (A ++ f' :: B) A f' B name := ⟨rfl, hf, G.lo, G.hi⟩
/- what is read -/
def lookD (fs : List DF) (name : List UInt8) : Option DF := fs.find? fun f => decide (f.n = name)
theorem There.look {fs A B : List DF} {f : DF} {name : List UInt8} (T : There fs A f B name) : lookD fs name = some f := by
  rw [lookD, T.eq, List.find?_append, List.find?_eq_none.2 (fun a ha => by simp [bl_ne (T.lo a ha)])]
  simp [T.nm]
theorem Gap.look {fs A B : List DF} {name : List UInt8} (G : Gap fs A B name) : lookD fs name = none := by
  rw [lookD, G.eq, List.find?_append, List.find?_eq_none.2 (fun a ha => by simp [bl_ne (G.lo a ha)]), List.find?_eq_none.2 (fun b hb => by simp [(bl_ne (G.hi b hb)).symm])]
  rfl
noncomputable def readD (fs : List DF) (name : List UInt8) : List UInt8 × Int := if goodD fs = true then match lookD fs name with
  | some f => (f.s ++ f.t, 0)
  | none => ([], 7) else ([], 3)
theorem readD_bad {fs : List DF} {name : List UInt8} (h : goodD fs = false) : readD fs name = ([], 3) := by simp [readD, h]
theorem readD_there {fs A B : List DF} {f : DF} {name : List UInt8} (g : GoodD fs) (T : There fs A f B name) : readD fs name = (f.s ++ f.t, 0) := by simp [readD, goodD_true.2 g, T.look]
theorem readD_gap {fs A B : List DF} {name : List UInt8} (g : GoodD fs) (G : Gap fs A B name) : readD fs name = ([], 7) := by simp [readD, goodD_true.2 g, G.look]
theorem readD_len (fs : List DF) (name : List UInt8) : (readD fs name).1.length ≤ 1048576 := by
  rcases loc_cases fs name with ⟨E, ⟨h, _⟩ | ⟨g, ⟨A, B, G⟩, _⟩⟩ | ⟨g, A, f, B, T⟩
  · rw [readD_bad h]; simp
  · rw [readD_gap g G]; simp
  · rw [readD_there g T]; have := fileOk_len (T.ok g); simp; omega
theorem read_any (v : Value) (fs : List DF) (name : List UInt8) (w : World) (hv : DiskV w v fs) (hs : Slim fs) :
    Calls Tryz.prog 60 #[.agg #[v], .string ⟨name.toArray⟩] w fun e w' => e = .returned (.tuple #[.string ⟨(readD fs name).1.toArray⟩, .int .i64 (readD fs name).2]) ∧ Below w.heap.size w w' := by
  rcases loc_cases fs name with ⟨E, h⟩ | ⟨g, A, f, B, T⟩
  · have h' := read_no v fs name E w hv hs h
    rcases h with ⟨h, rfl⟩ | ⟨g, ⟨A, B, G⟩, rfl⟩
    · rw [readD_bad h]; exact h'
    · rw [readD_gap g G]; exact h'
  · rw [readD_there g T]; exact read_there v fs A B f name w hv hs g T

/- what is written -/
/-- a file was written: the disk then, and what it held ahead of it -/
structure Wrote (fs : List DF) (name x : List UInt8) (A : List DF) (f' : DF) (B : List DF) (s0 t0 : List UInt8) : Prop where
  good : GoodD fs
  after : GoodD (A ++ f' :: B)
  at_ : There (A ++ f' :: B) A f' B name
  eq : f' = ⟨name, s0, t0 ++ x⟩
  old : (∃ f, There fs A f B name ∧ f.s = s0 ∧ f.t = t0) ∨ (Gap fs A B name ∧ s0 = [] ∧ t0 = [])
theorem Wrote.len {fs A B : List DF} {name x s0 t0 : List UInt8} {f' : DF} (W : Wrote fs name x A f' B s0 t0) : s0.length + t0.length + x.length ≤ 1048576 := by
  have := fileOk_len (W.after.ok f' (by simp))
  rw [W.eq] at this
  simp at this
  omega
end Go.Proofs.YtoacignhobchbaaGreatDoor

namespace Go.Proofs.YtoacignhobchbaaGreatDoor
open Go.RowKit

/-- a call on a disk of these files says E, and hands back a disk of those -/
def GivesD (f : FuncId) (args : Value → Array Value) (fs d : List DF) (E : Int) : Prop := ∀ v W, DiskV W v fs → Calls Tryz.prog f (args (.agg #[v])) W fun e w' => ∃ a n c, e = .returned (.tuple #[.agg #[.slice a n c], .int .i64 E]) ∧ Hid (DiskV w' (.slice a n c) d) ∧ Below W.heap.size W w'
theorem gives_own {f : FuncId} {args : Value → Array Value} {fs d : List DF} (h : ∀ v W, DiskV W v fs → Calls Tryz.prog f (args (.agg #[v])) W fun e w' => ∃ v', e = .returned (.tuple #[.agg #[v'], .int .i64 0]) ∧ OwnV w' W.heap.size v' d ∧ Below W.heap.size W w') : GivesD f args fs d 0 :=
  fun v W hv => (h v W hv).mono fun _ w' ⟨v', he, ho, hb⟩ => by
    obtain ⟨a, n, c, rfl⟩ := disk_slice ho.disk
    exact ⟨a, n, c, he, ho.disk, hb⟩
end Go.Proofs.YtoacignhobchbaaGreatDoor

namespace Go.Proofs.YtoacignhobchbaaGreatDoor
open Go.RowKit

/-- the value holds this server -/
def SvV (w : World) (v : Value) (s : Sv) : Prop := ∃ vd vl vn vs vw, v = .agg #[.bool s.up, vd, .int .i64 s.id, .int .i64 s.ep, vl, .int .i64 s.dn, .int .i64 s.tr.z, vn, vs, vw] ∧ DiskV w vd s.fs ∧ LogV w vl s.ts ∧ SeqV w vn s.tr.ns ∧ SeqV w vs s.tr.ss ∧ SeqV w vw s.ws
theorem SvV.next {w w' : World} {v : Value} {s : Sv} (h : SvV w v s) (hb : Below w.heap.size w w') : SvV w' v s := by
  obtain ⟨vd, vl, vn, vs, vw, rfl, h1, h2, h3, h4, h5⟩ := h
  exact ⟨vd, vl, vn, vs, vw, rfl, h1.next hb, h2.next hb, h3.next hb, h4.next hb, h5.next hb⟩
theorem SvV.alloc {w : World} {v : Value} {s : Sv} (h : SvV w v s) (o : Obj) : SvV (w.alloc o) v s := h.next (allocB _ _)
theorem SvV.drew {w : World} {v : Value} {s : Sv} (h : SvV w v s) : SvV w.drew v s := h.next (Below.refl _ _).drew
/-- its five rows as slices -/
theorem SvV.five {w : World} {v : Value} {s : Sv} (h : SvV w v s) : ∃ ad nd cd al cl an cn ai ci aw cw,
    v = .agg #[.bool s.up, .slice ad nd cd, .int .i64 s.id, .int .i64 s.ep, .slice al s.ts.length cl, .int .i64 s.dn, .int .i64 s.tr.z, .slice an s.tr.ns.length cn, .slice ai s.tr.ss.length ci, .slice aw s.ws.length cw] ∧
    DiskV w (.slice ad nd cd) s.fs ∧ LogV w (.slice al s.ts.length cl) s.ts ∧ SeqV w (.slice an s.tr.ns.length cn) s.tr.ns ∧ SeqV w (.slice ai s.tr.ss.length ci) s.tr.ss ∧ SeqV w (.slice aw s.ws.length cw) s.ws := by
  obtain ⟨vd, vl, vn, vs, vw, rfl, h1, h2, h3, h4, h5⟩ := h
  obtain ⟨ad, nd, cd, rfl⟩ := disk_slice h1
  obtain ⟨al, cl, rfl⟩ := log_slice h2
  obtain ⟨an, cn, rfl⟩ := seq_slice h3
  obtain ⟨ai, ci, rfl⟩ := seq_slice h4
  obtain ⟨aw, cw, rfl⟩ := seq_slice h5
  exact ⟨ad, nd, cd, al, cl, an, cn, ai, ci, aw, cw, rfl, h1, h2, h3, h4, h5⟩
/-- the empty one -/
def svZ : Value := .agg #[.bool false, .slice none 0 0, .int .i64 0, .int .i64 0, .slice none 0 0, .int .i64 0, .int .i64 0, .slice none 0 0, .slice none 0 0, .slice none 0 0]
theorem SvV.zero (w : World) : SvV w svZ sv0 := ⟨_, _, _, _, _, rfl, DiskV.nil w, LogV.nil w, SeqV.nil w, SeqV.nil w, SeqV.nil w⟩
/-- a call hands back a server, and says E -/
def GivesV (w : World) (s : Sv) (E : Int) (e : Ending) (w' : World) : Prop := ∃ v, e = .returned (.tuple #[v, .int .i64 E]) ∧ SvV w' v s ∧ Below w.heap.size w w'
theorem GivesV.later {w W w' : World} {s : Sv} {E : Int} {e : Ending} (h : GivesV W s E e w') (hb : Below w.heap.size w W) : GivesV w s E e w' := by
  obtain ⟨v, he, h1, h2⟩ := h
  exact ⟨v, he, h1, nnext hb h2⟩

end Go.Proofs.YtoacignhobchbaaGreatDoor

namespace Go.Proofs.YtoacignhobchbaaGreatDoor
open Go.RowKit

instance layX : Lay WTxn := ⟨7, tcells, 53, fun _ => rfl, fun x u hu => tcells_one x u hu⟩
theorem cellsT_L (ts : List WTxn) : cellsL ts = cellsT ts := by
  induction ts with
  | nil => rfl
  | cons f r ih => rw [cellsL_cons, ih]; rfl
theorem seq_log {w : World} {v : Value} {ts : List WTxn} : SeqV w v ts ↔ LogV w v ts := by unfold SeqV LogV; rw [cellsT_L]
end Go.Proofs.YtoacignhobchbaaGreatDoor
