/-
  What the disk's calls come to, as plain lists: good disks stay good; where a name stands behind a change; what is read. No program is named here.
  What it is that a call on a disk gives a disk.
  How a server lies in memory: one flat value of ten, five of them rows; what stays when other memory turns.
  Boxes of a server: stores into them leave the rows that it holds as they were.
  What zxid.Good answers, for every number: the walk.
  What zxid's functions on numbers answer, for every number: the walks.
  What zxid.part and zxid.Read answer, for every text: the walks; strings.Cut at a separator of one byte beside them.
  What store.Epoch and aviaryref.EpochOf answer: the walks.
  What wal.Last and wal.follows answer: the walks.
  What wire's cursor answers: the walks of text and number; a world in which one block alone has turned.
-/
import Derived.Test.YtbkndjhogaloiaaGreatDoorSGH
import Derived.Test.YtbkndjhogaloiaaGreatDoorSGI
import Derived.Test.YtbkndjhogaloiaaGreatDoorSGE
import Derived.Test.YtbkndjhogaloiaaGreatDoorSGB
import Derived.Test.YtbkndjhogaloiaaGreatDoorRows
import Derived.Test.YtbkndjhogaloiaaGreatDoorSGA
import Derived.WalkKit
import Derived.WalkSpells
import Derived.WalkLawsBesides
import Derived.Test.YtbkndjhogaloiaaGreatDoorShelf
import Derived.WalkSmall
import Derived.RegionTactic
import Derived.Deep.RegionHeld3
import Derived.Deep.RegionLaw
namespace Go.Proofs.YtbkndjhogaloiaaGreatDoor
open Go.RowKit

theorem good_slim {fs : List DF} (g : GoodD fs) : Slim fs := fun f hf => by
  have h := g.ok f hf
  have h1 := fileOk_len h
  have h2 := fileOk_named h
  simp only [namedB, Bool.and_eq_true, decide_eq_true_eq] at h2
  omega
theorem good_set {A B : List DF} {f f' : DF} (g : GoodD (A ++ f :: B)) (hn : f'.n = f.n) (hl : f'.s.length + f'.t.length ≤ 1048576) : GoodD (A ++ f' :: B) := by
  refine ⟨by simpa using g.few, ?_, ?_⟩
  · intro x hx
    rcases List.mem_append.1 hx with h | h
    · exact g.ok x (by simp [h])
    · rcases List.mem_cons.1 h with rfl | h
      · have := fileOk_named (g.ok f (by simp))
        simp [fileOk, hn, this, hl]
      · exact g.ok x (by simp [h])
  · have h := g.asc
    unfold Asc at h ⊢
    rw [List.pairwise_append, List.pairwise_cons] at h ⊢
    refine ⟨h.1, ⟨fun b hb => by rw [hn]; exact h.2.1.1 b hb, h.2.1.2⟩, fun a ha b hb => ?_⟩
    rcases List.mem_cons.1 hb with rfl | hb
    · rw [hn]; exact h.2.2 a ha f (by simp)
    · exact h.2.2 a ha b (by simp [hb])
theorem good_ins {fs A B : List DF} {name : List UInt8} (g : GoodD fs) (G : Gap fs A B name) (hn : namedB name = true) (hl : fs.length < 16) {f' : DF} (hf : f'.n = name) (hs : f'.s.length + f'.t.length ≤ 1048576) : GoodD (A ++ f' :: B) := by
  have g' := g
  rw [G.eq] at g' hl
  refine ⟨by simp at hl ⊢; omega, ?_, ?_⟩
  · intro x hx
    rcases List.mem_append.1 hx with h | h
    · exact g'.ok x (by simp [h])
    · rcases List.mem_cons.1 h with rfl | h
      · simp [fileOk, hf, hn, hs]
      · exact g'.ok x (by simp [h])
  · have h := g'.asc
    unfold Asc at h ⊢
    rw [List.pairwise_append] at h
    rw [List.pairwise_append, List.pairwise_cons]
    refine ⟨h.1, ⟨fun b hb => by rw [hf]; exact G.hi b hb, h.2.1⟩, fun a ha b hb => ?_⟩
    rcases List.mem_cons.1 hb with rfl | hb
    · rw [hf]; exact G.lo a ha
    · exact h.2.2 a ha b hb
theorem There.set {fs A B : List DF} {f : DF} {name : List UInt8} (T : There fs A f B name) {f' : DF} (hf : f'.n = name) : There (A ++ f' :: B) A f' B name := ⟨rfl, hf, T.lo, T.hi⟩
theorem Gap.ins {fs A B : List DF} {name : List UInt8} (G : Gap fs A B name) {f' : DF} (hf : f'.n = name) : There (A ++ f' :: B) A f' B name := ⟨rfl, hf, G.lo, G.hi⟩
theorem There.crash {fs A B : List DF} {f : DF} {name : List UInt8} (T : There fs A f B name) (k : Nat) : There (fs.map (crashF k)) (A.map (crashF k)) (crashF k f) (B.map (crashF k)) name :=
  ⟨by rw [T.eq]; simp, T.nm, fun a ha => by obtain ⟨x, hx, rfl⟩ := List.mem_map.1 ha; exact T.lo x hx, fun b hb => by obtain ⟨x, hx, rfl⟩ := List.mem_map.1 hb; exact T.hi x hx⟩

/- what is read -/
def lookD (fs : List DF) (name : List UInt8) : Option DF := fs.find? fun f => decide (f.n = name)
theorem There.look {fs A B : List DF} {f : DF} {name : List UInt8} (T : There fs A f B name) : lookD fs name = some f := by
  rw [lookD, T.eq, List.find?_append, List.find?_eq_none.2 (fun a ha => by simp [bl_ne (T.lo a ha)])]
  simp [T.nm]
theorem Gap.look {fs A B : List DF} {name : List UInt8} (G : Gap fs A B name) : lookD fs name = none := by
  rw [lookD, G.eq, List.find?_append, List.find?_eq_none.2 (fun a ha => by simp [bl_ne (G.lo a ha)]), List.find?_eq_none.2 (fun b hb => by simp [(bl_ne (G.hi b hb)).symm])]
  rfl
noncomputable def readD (fs : List DF) (name : List UInt8) : List UInt8 × Int := if goodD fs = true then match lookD fs name with
  | some f => (f.s ++ f.t, 0)
  | none => ([], 7) else ([], 3)
theorem readD_bad {fs : List DF} {name : List UInt8} (h : goodD fs = false) : readD fs name = ([], 3) := by simp [readD, h]
theorem readD_there {fs A B : List DF} {f : DF} {name : List UInt8} (g : GoodD fs) (T : There fs A f B name) : readD fs name = (f.s ++ f.t, 0) := by simp [readD, goodD_true.2 g, T.look]
theorem readD_gap {fs A B : List DF} {name : List UInt8} (g : GoodD fs) (G : Gap fs A B name) : readD fs name = ([], 7) := by simp [readD, goodD_true.2 g, G.look]
theorem readD_len (fs : List DF) (name : List UInt8) : (readD fs name).1.length ≤ 1048576 := by
  rcases loc_cases fs name with ⟨E, ⟨h, _⟩ | ⟨g, ⟨A, B, G⟩, _⟩⟩ | ⟨g, A, f, B, T⟩
  · rw [readD_bad h]; simp
  · rw [readD_gap g G]; simp
  · rw [readD_there g T]; have := fileOk_len (T.ok g); simp; omega
theorem read_any (v : Value) (fs : List DF) (name : List UInt8) (w : World) (hv : DiskV w v fs) (hs : Slim fs) :
    Calls Tryz.prog 45 #[.agg #[v], .string ⟨name.toArray⟩] w fun e w' => e = .returned (.tuple #[.string ⟨(readD fs name).1.toArray⟩, .int .i64 (readD fs name).2]) ∧ Below w.heap.size w w' := by
  rcases loc_cases fs name with ⟨E, h⟩ | ⟨g, A, f, B, T⟩
  · have h' := read_no v fs name E w hv hs h
    rcases h with ⟨h, rfl⟩ | ⟨g, ⟨A, B, G⟩, rfl⟩
    · rw [readD_bad h]; exact h'
    · rw [readD_gap g G]; exact h'
  · rw [readD_there g T]; exact read_there v fs A B f name w hv hs g T

/- what is written -/
/-- a file was written: the disk then, and what it held ahead of it -/
structure Wrote (fs : List DF) (name x : List UInt8) (A : List DF) (f' : DF) (B : List DF) (s0 t0 : List UInt8) : Prop where
  good : GoodD fs
  after : GoodD (A ++ f' :: B)
  at_ : There (A ++ f' :: B) A f' B name
  eq : f' = ⟨name, s0, t0 ++ x⟩
  old : (∃ f, There fs A f B name ∧ f.s = s0 ∧ f.t = t0) ∨ (Gap fs A B name ∧ s0 = [] ∧ t0 = [])
theorem Wrote.len {fs A B : List DF} {name x s0 t0 : List UInt8} {f' : DF} (W : Wrote fs name x A f' B s0 t0) : s0.length + t0.length + x.length ≤ 1048576 := by
  have := fileOk_len (W.after.ok f' (by simp))
  rw [W.eq] at this
  simp at this
  omega
end Go.Proofs.YtbkndjhogaloiaaGreatDoor

namespace Go.Proofs.YtbkndjhogaloiaaGreatDoor
open Go.RowKit

/-- a call on a disk of these files says E, and hands back a disk of those -/
def GivesD (f : FuncId) (args : Value → Array Value) (fs d : List DF) (E : Int) : Prop := ∀ v W, DiskV W v fs → Calls Tryz.prog f (args (.agg #[v])) W fun e w' => ∃ a n c, e = .returned (.tuple #[.agg #[.slice a n c], .int .i64 E]) ∧ Hid (DiskV w' (.slice a n c) d) ∧ Below W.heap.size W w'
theorem dgives_no {f : FuncId} {args : Value → Array Value} {fs : List DF} {E : Int} (h : ∀ v W, DiskV W v fs → Calls Tryz.prog f (args (.agg #[v])) W fun e w' => e = .returned (.tuple #[.agg #[.slice none 0 0], .int .i64 E]) ∧ Below W.heap.size W w') : GivesD f args fs [] E :=
  fun v W hv => (h v W hv).mono fun _ w' ⟨he, hb⟩ => ⟨_, _, _, he, DiskV.nil w', hb⟩
theorem gives_own {f : FuncId} {args : Value → Array Value} {fs d : List DF} (h : ∀ v W, DiskV W v fs → Calls Tryz.prog f (args (.agg #[v])) W fun e w' => ∃ v', e = .returned (.tuple #[.agg #[v'], .int .i64 0]) ∧ OwnV w' W.heap.size v' d ∧ Below W.heap.size W w') : GivesD f args fs d 0 :=
  fun v W hv => (h v W hv).mono fun _ w' ⟨v', he, ho, hb⟩ => by
    obtain ⟨a, n, c, rfl⟩ := disk_slice ho.disk
    exact ⟨a, n, c, he, ho.disk, hb⟩
end Go.Proofs.YtbkndjhogaloiaaGreatDoor

namespace Go.Proofs.YtbkndjhogaloiaaGreatDoor
open Go.RowKit

/-- the value holds this server -/
def SvV (w : World) (v : Value) (s : Sv) : Prop := ∃ vd vl vn vs vw, v = .agg #[.bool s.up, vd, .int .i64 s.id, .int .i64 s.ep, vl, .int .i64 s.dn, .int .i64 s.tr.z, vn, vs, vw] ∧ DiskV w vd s.fs ∧ LogV w vl s.ts ∧ SeqV w vn s.tr.ns ∧ SeqV w vs s.tr.ss ∧ SeqV w vw s.ws
theorem SvV.next {w w' : World} {v : Value} {s : Sv} (h : SvV w v s) (hb : Below w.heap.size w w') : SvV w' v s := by
  obtain ⟨vd, vl, vn, vs, vw, rfl, h1, h2, h3, h4, h5⟩ := h
  exact ⟨vd, vl, vn, vs, vw, rfl, h1.next hb, h2.next hb, h3.next hb, h4.next hb, h5.next hb⟩
theorem SvV.alloc {w : World} {v : Value} {s : Sv} (h : SvV w v s) (o : Obj) : SvV (w.alloc o) v s := h.next (allocB _ _)
theorem SvV.drew {w : World} {v : Value} {s : Sv} (h : SvV w v s) : SvV w.drew v s := h.next (Below.refl _ _).drew
/-- its five rows as slices -/
theorem SvV.five {w : World} {v : Value} {s : Sv} (h : SvV w v s) : ∃ ad nd cd al cl an cn ai ci aw cw,
    v = .agg #[.bool s.up, .slice ad nd cd, .int .i64 s.id, .int .i64 s.ep, .slice al s.ts.length cl, .int .i64 s.dn, .int .i64 s.tr.z, .slice an s.tr.ns.length cn, .slice ai s.tr.ss.length ci, .slice aw s.ws.length cw] ∧
    DiskV w (.slice ad nd cd) s.fs ∧ LogV w (.slice al s.ts.length cl) s.ts ∧ SeqV w (.slice an s.tr.ns.length cn) s.tr.ns ∧ SeqV w (.slice ai s.tr.ss.length ci) s.tr.ss ∧ SeqV w (.slice aw s.ws.length cw) s.ws := by
  obtain ⟨vd, vl, vn, vs, vw, rfl, h1, h2, h3, h4, h5⟩ := h
  obtain ⟨ad, nd, cd, rfl⟩ := disk_slice h1
  obtain ⟨al, cl, rfl⟩ := log_slice h2
  obtain ⟨an, cn, rfl⟩ := seq_slice h3
  obtain ⟨ai, ci, rfl⟩ := seq_slice h4
  obtain ⟨aw, cw, rfl⟩ := seq_slice h5
  exact ⟨ad, nd, cd, al, cl, an, cn, ai, ci, aw, cw, rfl, h1, h2, h3, h4, h5⟩
/-- the empty one -/
def svZ : Value := .agg #[.bool false, .slice none 0 0, .int .i64 0, .int .i64 0, .slice none 0 0, .int .i64 0, .int .i64 0, .slice none 0 0, .slice none 0 0, .slice none 0 0]
theorem SvV.zero (w : World) : SvV w svZ sv0 := ⟨_, _, _, _, _, rfl, DiskV.nil w, LogV.nil w, SeqV.nil w, SeqV.nil w, SeqV.nil w⟩
/-- a call hands back a server, and says E -/
def GivesV (w : World) (s : Sv) (E : Int) (e : Ending) (w' : World) : Prop := ∃ v, e = .returned (.tuple #[v, .int .i64 E]) ∧ SvV w' v s ∧ Below w.heap.size w w'
theorem GivesV.later {w W w' : World} {s : Sv} {E : Int} {e : Ending} (h : GivesV W s E e w') (hb : Below w.heap.size w W) : GivesV w s E e w' := by
  obtain ⟨v, he, h1, h2⟩ := h
  exact ⟨v, he, h1, nnext hb h2⟩

end Go.Proofs.YtbkndjhogaloiaaGreatDoor

namespace Go.Proofs.YtbkndjhogaloiaaGreatDoor
open Go.RowKit

/-- block k is a box of cells without a text -/
def Dumb (W : World) (k : Nat) : Prop := ∃ cs t, W.heap[k]? = some (.cells cs t (0, 0)) ∧ ∀ (j : Nat) (s : ByteArray), cs[j]? ≠ some (Value.string s)
theorem Dumb.next {W V : World} {k : Nat} (h : Dumb W k) (hb : Below W.heap.size W V) : Dumb V k := by
  obtain ⟨cs, t, h1, h2⟩ := h
  exact ⟨cs, t, (hb.block k (Array.getElem?_eq_some_iff.1 h1).1).trans h1, h2⟩
theorem Dumb.set {W : World} {k j : Nat} {u : Value} (h : Dumb W k) (hu : ∀ s, u ≠ .string s) : Dumb (W.setCell ⟨k, j, none⟩ u) k := by
  obtain ⟨cs, t, h1, h2⟩ := h
  refine ⟨cs.setIfInBounds j u, t, block_set u h1, fun i s hi => ?_⟩
  rw [Array.getElem?_setIfInBounds] at hi
  split at hi
  · split at hi
    · exact hu s (Option.some.inj hi)
    · cases hi
  · exact h2 i s hi
theorem Dumb.other {W : World} {k i j : Nat} {u : Value} (h : Dumb W k) (hk : k ≠ i) : Dumb (W.setCell ⟨i, j, none⟩ u) k := by
  obtain ⟨cs, t, h1, h2⟩ := h
  exact ⟨cs, t, (Below.heap_setCell W ⟨i, j, none⟩ u k hk).trans h1, h2⟩
theorem Dumb.no {W : World} {k j : Nat} {s : ByteArray} (h : Dumb W k) : W.cell? ⟨k, j, none⟩ ≠ some (.string s) := by
  obtain ⟨cs, t, h1, h2⟩ := h
  intro e
  simp [World.cell?, h1] at e
  exact h2 j s e
theorem RowAt.put {W : World} {b off k j : Nat} {cs : List Value} {u : Value} (h : RowAt W b off cs) (hk : b ≠ k) : RowAt (W.setCell ⟨k, j, none⟩ u) b off cs := fun i v hi => by
  rw [World.cell?, Below.heap_setCell W ⟨k, j, none⟩ u b hk]
  exact h i v hi
theorem disk_dumb {W : World} {v : Value} {fs : List DF} (h : DiskV W v fs) {k j : Nat} (hk : Dumb W k) (u : Value) : DiskV (W.setCell ⟨k, j, none⟩ u) v fs := by
  rcases h with h | ⟨b, off, cap, rfl, h1, h2, h3, h0, h4⟩
  · exact .inl h
  · refine .inr ⟨b, off, cap, rfl, h1, h2, by simpa [World.setCell] using h3, h0, h4.put ?_⟩
    rintro rfl
    obtain ⟨f, r, rfl⟩ := List.exists_cons_of_ne_nil h0
    exact hk.no (h4.c0 (i := 0) (f := f) rfl)
theorem log_dumb {W : World} {v : Value} {ts : List WTxn} (h : LogV W v ts) {k j : Nat} (hk : Dumb W k) (u : Value) : LogV (W.setCell ⟨k, j, none⟩ u) v ts := by
  rcases h with h | ⟨b, off, cap, rfl, h1, h2, h3, h0, h4⟩
  · exact .inl h
  · refine .inr ⟨b, off, cap, rfl, h1, h2, by simpa [World.setCell] using h3, h0, h4.put ?_⟩
    rintro rfl
    obtain ⟨f, r, rfl⟩ := List.exists_cons_of_ne_nil h0
    exact hk.no (h4.p (i := 0) (t := f) rfl)
theorem nodes_dumb {W : World} {v : Value} {xs : List Nd} (h : SeqV W v xs) {k j : Nat} (hk : Dumb W k) (u : Value) : SeqV (W.setCell ⟨k, j, none⟩ u) v xs := by
  rcases h with h | ⟨b, off, cap, rfl, h1, h2, h3, h0, h4⟩
  · exact .inl h
  · refine .inr ⟨b, off, cap, rfl, h1, h2, by simpa [World.setCell] using h3, h0, h4.put ?_⟩
    rintro rfl
    obtain ⟨f, r, rfl⟩ := List.exists_cons_of_ne_nil h0
    exact hk.no (h4.n0 (i := 0) (x := f) rfl)
theorem watches_dumb {W : World} {v : Value} {xs : List Wa} (h : SeqV W v xs) {k j : Nat} (hk : Dumb W k) (u : Value) : SeqV (W.setCell ⟨k, j, none⟩ u) v xs := by
  rcases h with h | ⟨b, off, cap, rfl, h1, h2, h3, h0, h4⟩
  · exact .inl h
  · refine .inr ⟨b, off, cap, rfl, h1, h2, by simpa [World.setCell] using h3, h0, h4.put ?_⟩
    rintro rfl
    obtain ⟨f, r, rfl⟩ := List.exists_cons_of_ne_nil h0
    exact hk.no (h4.w2 (i := 0) (x := f) rfl)
/-- a row that does not lie in block k -/
def Away (v : Value) (k : Nat) : Prop := ∀ b off n c, v = .slice (some ⟨b, off, none⟩) n c → b ≠ k
theorem seq_away {α : Type} [Lay α] {W : World} {v : Value} {xs : List α} (h : SeqV W v xs) {k j : Nat} (hk : Away v k) (u : Value) : SeqV (W.setCell ⟨k, j, none⟩ u) v xs := by
  rcases h with h | ⟨b, off, cap, rfl, h1, h2, h3, h0, h4⟩
  · exact .inl h
  · exact .inr ⟨b, off, cap, rfl, h1, h2, by simpa [World.setCell] using h3, h0, h4.put (hk b off _ cap rfl)⟩
theorem away_none (n c k : Nat) : Away (.slice none n c) k := fun b off n' c' h => by simp at h
/-- ten cells stored into a box -/
def put10 (W : World) (k : Nat) (x0 x1 x2 x3 x4 x5 x6 x7 x8 x9 : Value) : World :=
  (((((((((W.setCell ⟨k, 0, none⟩ x0).setCell ⟨k, 1, none⟩ x1).setCell ⟨k, 2, none⟩ x2).setCell ⟨k, 3, none⟩ x3).setCell ⟨k, 4, none⟩ x4).setCell ⟨k, 5, none⟩ x5).setCell ⟨k, 6, none⟩ x6).setCell ⟨k, 7, none⟩ x7).setCell ⟨k, 8, none⟩ x8).setCell ⟨k, 9, none⟩ x9
theorem put10_below {w W : World} {k : Nat} (h : Below w.heap.size w W) (hk : w.heap.size ≤ k) (x0 x1 x2 x3 x4 x5 x6 x7 x8 x9 : Value) : Below w.heap.size w (put10 W k x0 x1 x2 x3 x4 x5 x6 x7 x8 x9) :=
  (((((((((h.setCell hk x0).setCell hk x1).setCell hk x2).setCell hk x3).setCell hk x4).setCell hk x5).setCell hk x6).setCell hk x7).setCell hk x8).setCell hk x9
/-- the block k holds a server's ten cells -/
def Box10 (W : World) (k : Nat) (up : Bool) (vd : Value) (id ep : Int) (vl : Value) (dn z : Int) (vn vs vw : Value) : Prop :=
  W.heap[k]? = some (.cells #[.bool up, vd, .int .i64 id, .int .i64 ep, vl, .int .i64 dn, .int .i64 z, vn, vs, vw] 35 (0, 0))
theorem Box10.next {W V : World} {k : Nat} {up : Bool} {id ep dn z : Int} {vd vl vn vs vw : Value} (h : Box10 W k up vd id ep vl dn z vn vs vw) (hb : Below W.heap.size W V) : Box10 V k up vd id ep vl dn z vn vs vw := (hb.block k (by unfold Box10 at h; exact (Array.getElem?_eq_some_iff.1 h).1)).trans h
theorem Box10.lt {W : World} {k : Nat} {up : Bool} {id ep dn z : Int} {vd vl vn vs vw : Value} (h : Box10 W k up vd id ep vl dn z vn vs vw) : k < W.heap.size := by unfold Box10 at h; exact (Array.getElem?_eq_some_iff.1 h).1
theorem Box10.new (w : World) (up : Bool) (id ep dn z : Int) (vd vl vn vs vw : Value) : Box10 (w.alloc (.cells #[.bool up, vd, .int .i64 id, .int .i64 ep, vl, .int .i64 dn, .int .i64 z, vn, vs, vw] 35)) w.heap.size up vd id ep vl dn z vn vs vw := heap_alloc_new w _
theorem Box10.other {W : World} {k i j : Nat} {u : Value} {up : Bool} {id ep dn z : Int} {vd vl vn vs vw : Value} (h : Box10 W k up vd id ep vl dn z vn vs vw) (hk : k ≠ i) : Box10 (W.setCell ⟨i, j, none⟩ u) k up vd id ep vl dn z vn vs vw := (Below.heap_setCell W ⟨i, j, none⟩ u k hk).trans h
theorem Box10.cells {W : World} {k : Nat} {up : Bool} {id ep dn z : Int} {vd vl vn vs vw : Value} (h : Box10 W k up vd id ep vl dn z vn vs vw) :
    W.cell? ⟨k, 0, none⟩ = some (.bool up) ∧ W.cell? ⟨k, 1, none⟩ = some vd ∧ W.cell? ⟨k, 2, none⟩ = some (.int .i64 id) ∧ W.cell? ⟨k, 3, none⟩ = some (.int .i64 ep) ∧ W.cell? ⟨k, 4, none⟩ = some vl ∧ W.cell? ⟨k, 5, none⟩ = some (.int .i64 dn) ∧ W.cell? ⟨k, 6, none⟩ = some (.int .i64 z) ∧ W.cell? ⟨k, 7, none⟩ = some vn ∧ W.cell? ⟨k, 8, none⟩ = some vs ∧ W.cell? ⟨k, 9, none⟩ = some vw := by
  unfold Box10 at h
  refine ⟨?_, ?_, ?_, ?_, ?_, ?_, ?_, ?_, ?_, ?_⟩ <;> simp [World.cell?, h]
theorem Box10.froz {W : World} {k : Nat} {up : Bool} {id ep dn z : Int} {vd vl vn vs vw : Value} (h : Box10 W k up vd id ep vl dn z vn vs vw) (j : Nat) : W.frozen? ⟨k, j, none⟩ = false := by
  unfold Box10 at h
  simp [World.frozen?, h]
theorem Box10.dumb {W : World} {k : Nat} {up : Bool} {id ep dn z : Int} {ad al an ai aw : Option Addr} {nd cd nl cl nn cn ni ci nw cw : Nat} (h : Box10 W k up (.slice ad nd cd) id ep (.slice al nl cl) dn z (.slice an nn cn) (.slice ai ni ci) (.slice aw nw cw)) : Dumb W k := by
  refine ⟨_, _, h, fun j s hj => ?_⟩
  have hm := Array.mem_of_getElem? hj
  simp at hm
/-- what is stored is held there as it was -/
theorem put10_sv {W : World} {k : Nat} (hk : Dumb W k) {up : Bool} {id ep dn z : Int} {ad al an ai aw : Option Addr} {nd cd nl cl nn cn ni ci nw cw : Nat} {v : Value} {s : Sv} (hs : ∀ vd vl vn vs vw, v = .agg #[.bool s.up, vd, .int .i64 s.id, .int .i64 s.ep, vl, .int .i64 s.dn, .int .i64 s.tr.z, vn, vs, vw] → Away vs k) (h : SvV W v s) :
    SvV (put10 W k (.bool up) (.slice ad nd cd) (.int .i64 id) (.int .i64 ep) (.slice al nl cl) (.int .i64 dn) (.int .i64 z) (.slice an nn cn) (.slice ai ni ci) (.slice aw nw cw)) v s := by
  have one : ∀ {W : World} {j : Nat} {u : Value}, (∀ t, u ≠ .string t) → Dumb W k → SvV W v s → Dumb (W.setCell ⟨k, j, none⟩ u) k ∧ SvV (W.setCell ⟨k, j, none⟩ u) v s := by
    intro W j u hu hk h
    refine ⟨hk.set hu, ?_⟩
    obtain ⟨vd, vl, vn, vs, vw, rfl, h1, h2, h3, h4, h5⟩ := h
    exact ⟨vd, vl, vn, vs, vw, rfl, disk_dumb h1 hk u, log_dumb h2 hk u, nodes_dumb h3 hk u, seq_away h4 (hs _ _ _ _ _ rfl) u, watches_dumb h5 hk u⟩
  obtain ⟨k0, h0⟩ := one (j := 0) (u := .bool up) (by simp) hk h
  obtain ⟨k1, h1⟩ := one (j := 1) (u := .slice ad nd cd) (by simp) k0 h0
  obtain ⟨k2, h2⟩ := one (j := 2) (u := .int .i64 id) (by simp) k1 h1
  obtain ⟨k3, h3⟩ := one (j := 3) (u := .int .i64 ep) (by simp) k2 h2
  obtain ⟨k4, h4⟩ := one (j := 4) (u := .slice al nl cl) (by simp) k3 h3
  obtain ⟨k5, h5⟩ := one (j := 5) (u := .int .i64 dn) (by simp) k4 h4
  obtain ⟨k6, h6⟩ := one (j := 6) (u := .int .i64 z) (by simp) k5 h5
  obtain ⟨k7, h7⟩ := one (j := 7) (u := .slice an nn cn) (by simp) k6 h6
  obtain ⟨k8, h8⟩ := one (j := 8) (u := .slice ai ni ci) (by simp) k7 h7
  exact (one (j := 9) (u := .slice aw nw cw) (by simp) k8 h8).2

theorem away_own {α : Type} [Lay α] {W : World} {B k : Nat} {v : Value} {xs : List α} (h : OwnS W B v xs) (hk : k < B) : Away v k := by
  intro b off n c e
  rcases h with ⟨rfl, _⟩ | ⟨g, cap, rfl, hB, _⟩
  · simp at e
  · simp only [Value.slice.injEq, Option.some.injEq, Addr.mk.injEq] at e
    omega
/-- a server's five rows, stored into the box k -/
theorem put10_new {W : World} {k : Nat} (hk : Dumb W k) {s : Sv} {ad al an ai aw : Option Addr} {nd cd nl cl nn cn ni ci nw cw : Nat} (D : DiskV W (.slice ad nd cd) s.fs) (L : LogV W (.slice al nl cl) s.ts) (N : SeqV W (.slice an nn cn) s.tr.ns) (I : SeqV W (.slice ai ni ci) s.tr.ss) (hI : Away (.slice ai ni ci) k) (X : SeqV W (.slice aw nw cw) s.ws) :
    SvV (put10 W k (.bool s.up) (.slice ad nd cd) (.int .i64 s.id) (.int .i64 s.ep) (.slice al nl cl) (.int .i64 s.dn) (.int .i64 s.tr.z) (.slice an nn cn) (.slice ai ni ci) (.slice aw nw cw)) (.agg #[.bool s.up, .slice ad nd cd, .int .i64 s.id, .int .i64 s.ep, .slice al nl cl, .int .i64 s.dn, .int .i64 s.tr.z, .slice an nn cn, .slice ai ni ci, .slice aw nw cw]) s :=
  put10_sv hk (fun vd vl vn vs vw e => by simp only [Value.agg.injEq, Array.mk.injEq, List.cons.injEq] at e; rw [← e.2.2.2.2.2.2.2.2.1]; exact hI) ⟨_, _, _, _, _, rfl, D, L, N, I, X⟩

end Go.Proofs.YtbkndjhogaloiaaGreatDoor

namespace Go.Proofs.YtbkndjhogaloiaaGreatDoor
open Go.RowKit

theorem zret_bool {a b : Bool} (h : a = b) : Ending.returned (.bool a) = .returned (.bool b) := by rw [h]

set_option maxRecDepth 10000 in
set_option maxHeartbeats 400000 in
theorem zgood_any (z : Int) (w : World) :
    Calls Tryz.prog 49 #[.int .i64 z] w fun e w' => e = .returned (.bool (zGood z)) ∧ w' = w := by
  go_enter Tryz.func49, Tryz.ntmps49
  go_wp2
  go_ret
  exact ⟨zret_bool (by rw [Bool.eq_iff_iff, zGood_iff, beq_iff_eq]; omega), rfl⟩

end Go.Proofs.YtbkndjhogaloiaaGreatDoor

namespace Go.Proofs.YtbkndjhogaloiaaGreatDoor
open Go.RowKit
set_option maxRecDepth 10000 in

set_option maxHeartbeats 400000 in
theorem zmake_any (e c : Int) (w : World) :
    Calls Tryz.prog 26 #[.int .i64 e, .int .i64 c] w fun x w' => x = .returned (.tuple #[.int .i64 (zMake e c), .int .i64 (zMakeE e c)]) ∧ w' = w := by
  by_cases h1 : e < 0
  · have H := hide (zMake_no (e := e) (c := c) (.inl (zIn_no (by omega))))
    go_enter Tryz.func26, Tryz.ntmps26
    go_wp2
    go_ret2
    exact ⟨ret_int2 (unhide H).1.symm (unhide H).2.symm, rfl⟩
  by_cases h2 : 2147483647 < e
  · have H := hide (zMake_no (e := e) (c := c) (.inl (zIn_no (by omega))))
    go_enter Tryz.func26, Tryz.ntmps26
    go_wp2
    go_ret2
    exact ⟨ret_int2 (unhide H).1.symm (unhide H).2.symm, rfl⟩
  by_cases h3 : c < 0
  · have H := hide (zMake_no (e := e) (c := c) (.inr (zIn_no (by omega))))
    go_enter Tryz.func26, Tryz.ntmps26
    go_wp2
    go_ret2
    exact ⟨ret_int2 (unhide H).1.symm (unhide H).2.symm, rfl⟩
  by_cases h4 : 2147483647 < c
  · have H := hide (zMake_no (e := e) (c := c) (.inr (zIn_no (by omega))))
    go_enter Tryz.func26, Tryz.ntmps26
    go_wp2
    go_ret2
    exact ⟨ret_int2 (unhide H).1.symm (unhide H).2.symm, rfl⟩
  have H := hide (zMake_yes (e := e) (c := c) (zIn_iff.2 (by omega)) (zIn_iff.2 (by omega)))
  go_enter Tryz.func26, Tryz.ntmps26
  go_wp2
  go_ret2
  exact ⟨ret_int2 ((or_join (by omega) (by omega) (by omega) (by omega)).trans (unhide H).1.symm) (unhide H).2.symm, rfl⟩

set_option maxRecDepth 10000 in
set_option maxHeartbeats 400000 in
theorem zepoch_any (z : Int) (w : World) :
    Calls Tryz.prog 48 #[.int .i64 z] w fun e w' => e = .returned (.int .i64 (zEpoch z)) ∧ w' = w := by
  cases hg : zGood z
  · have H := hide (zEpoch_no hg)
    have Hg := hide hg
    clear hg
    go_enter Tryz.func48, Tryz.ntmps48
    go_wp2_with fail
    refine (zgood_any z _).mono ?_
    rintro e w1 ⟨rfl, rfl⟩
    rw [unhide Hg]
    go_wp2_with fail
    go_ret
    exact ⟨ret_int (unhide H).symm, rfl⟩
  · have H := hide (zEpoch_yes hg)
    have Hg := hide hg
    clear hg
    go_enter Tryz.func48, Tryz.ntmps48
    go_wp2_with fail
    refine (zgood_any z _).mono ?_
    rintro e w1 ⟨rfl, rfl⟩
    rw [unhide Hg]
    go_wp2_with fail
    go_ret
    exact ⟨ret_int (unhide H).symm, rfl⟩

set_option maxRecDepth 10000 in
set_option maxHeartbeats 400000 in
theorem zcount_any (z : Int) (w : World) :
    Calls Tryz.prog 56 #[.int .i64 z] w fun e w' => e = .returned (.int .i64 (zCount z)) ∧ w' = w := by
  cases hg : zGood z
  · have H := hide (zCount_no hg)
    have Hg := hide hg
    clear hg
    go_enter Tryz.func56, Tryz.ntmps56
    go_wp2_with fail
    refine (zgood_any z _).mono ?_
    rintro e w1 ⟨rfl, rfl⟩
    rw [unhide Hg]
    go_wp2_with fail
    go_ret
    exact ⟨ret_int (unhide H).symm, rfl⟩
  · have H := hide (zCount_yes hg)
    have Hg := hide hg
    clear hg
    go_enter Tryz.func56, Tryz.ntmps56
    go_wp2_with fail
    refine (zgood_any z _).mono ?_
    rintro e w1 ⟨rfl, rfl⟩
    rw [unhide Hg]
    go_wp2_with fail
    go_ret
    have h := zGood_iff.1 (unhide Hg)
    exact ⟨ret_int ((and_mask h.1 h.2).trans (unhide H).symm), rfl⟩

end Go.Proofs.YtbkndjhogaloiaaGreatDoor

namespace Go.Proofs.YtbkndjhogaloiaaGreatDoor
open Go.RowKit

theorem zsize_list (s : ByteArray) : s.data.toList.length = s.size := by simp
theorem ret_part {i j : Int} {a b : Bool} (h : i = j) (h' : a = b) : Ending.returned (.tuple #[.int .i64 i, .bool a]) = .returned (.tuple #[.int .i64 j, .bool b]) := by rw [h, h']
theorem zhead (s : ByteArray) (h : 0 < s.size) : s.data.toList.head? = some s[0] := by
  rw [List.head?_eq_getElem?, List.getElem?_eq_getElem (by simpa using h)]; rfl
theorem num_take (s : ByteArray) (k : Nat) (h : k < s.size) : num (s.data.toList.take (k + 1)) = 10 * num (s.data.toList.take k) + (s[k].toNat - 48) := by
  rw [take_snoc s k h, num_snoc]
theorem num_small (s : ByteArray) (k : Nat) (h : k < 10) (ha : (s.data.toList.take k).all isD = true) : num (s.data.toList.take k) < 1000000000 := by
  have h1 := num_lt _ ha
  have h2 : (s.data.toList.take k).length ≤ 9 := by rw [List.length_take]; omega
  have h3 : 10 ^ (s.data.toList.take k).length ≤ 10 ^ 9 := Nat.pow_le_pow_right (by decide) h2
  have h4 : (10 : Nat) ^ 9 = 1000000000 := by decide
  omega

set_option maxRecDepth 10000 in
set_option maxHeartbeats 400000 in
theorem part_any (s : ByteArray) (w : World) (hs : s.size ≤ 140737488355328) :
    Calls Tryz.prog 70 #[.string s] w fun e w' => e = .returned (.tuple #[.int .i64 (partN s.data.toList), .bool (partB s.data.toList)]) ∧ w' = w := by
  have hz := zsize_list s
  by_cases h1 : s.size < 1
  · have hp : partB s.data.toList = false := partB_no (by omega)
    have H := hide hp
    clear hp
    go_enter Tryz.func70, Tryz.ntmps70
    go_wp2
    go_ret2
    exact ⟨ret_part (partN_no (unhide H)).symm (unhide H).symm, rfl⟩
  by_cases h2 : 10 < s.size
  · have hp : partB s.data.toList = false := partB_no (by omega)
    have H := hide hp
    clear hp
    go_enter Tryz.func70, Tryz.ntmps70
    go_wp2
    go_ret2
    exact ⟨ret_part (partN_no (unhide H)).symm (unhide H).symm, rfl⟩
  have hhd := zhead s (by omega)
  have h0 : 0 < s.size := by omega
  by_cases h3 : 1 < s.size ∧ s[0] = 48
  · have hp : partB s.data.toList = false := partB_no (by
      rintro ⟨_, _, h, _⟩
      exact h (by omega) (by rw [hhd, h3.2]))
    have H := hide hp
    have h4 : ((s[0].toNat : Int) == 48) = true := by rw [h3.2]; rfl
    have h5 := h3.1
    clear hp h3 hhd
    go_enter Tryz.func70, Tryz.ntmps70
    go_wp2
    go_ret2
    exact ⟨ret_part (partN_no (unhide H)).symm (unhide H).symm, rfl⟩
  have Hok : Hid (s.data.toList.all isD = true → partB s.data.toList = true) := hide (fun h => partB_iff.2 ⟨by omega, by omega, fun hl e => h3 ⟨by omega, by rw [hhd] at e; exact Option.some.inj e⟩, h⟩)
  have Hno : Hid (s.data.toList.all isD = false → partB s.data.toList = false) := hide (fun h => partB_no (fun hh => by rw [h] at hh; exact absurd hh.2.2.2 (by decide)))
  have h4 : 1 < s.size → ((s[0].toNat : Int) == 48) = false := fun hl => by
    rw [beq_eq_false_iff_ne]
    intro e
    exact h3 ⟨hl, UInt8.toNat_inj.1 (by show s[0].toNat = 48; omega)⟩
  clear h3 hhd
  by_cases h5 : 1 < s.size
  · have h6 := h4 h5
    clear h4
    go_enter Tryz.func70, Tryz.ntmps70
    go_wp2
    clear h6
    go_loop [4, 26] (fun n i => ∃ k : Nat, k ≤ s.size ∧ i = .int .i64 k ∧ n = .int .i64 (num (s.data.toList.take k) : Int) ∧ (s.data.toList.take k).all isD = true) (fun _ i => s.size - (intOf i).toNat)
    case atStart => exact ⟨0, Nat.zero_le _, rfl, rfl, by simp⟩
    case round =>
      obtain ⟨k, hk, rfl, rfl, hall⟩ := hrel
      have Hall := hide hall
      by_cases hlt : k < s.size
      · have hsm := num_small s k (by omega) hall
        have Hnt := hide (num_take s k hlt)
        clear hall
        obtain ⟨n, hn⟩ : ∃ n, num (s.data.toList.take k) = n := ⟨_, rfl⟩
        rw [hn] at hsm Hnt ⊢
        clear hn
        by_cases hd : isD s[k] = true
        · have hd1 := (isD_iff.1 hd).1
          have hd2 := (isD_iff.1 hd).2
          have Hd := hide hd
          clear hd
          go_wp2
          go_round
          case rel => exact ⟨k + 1, by omega, by go_num, by rw [unhide Hnt]; go_num, all_take_succ s k hlt isD (unhide Hall) (unhide Hd)⟩
          case measure => simp [intOf]; omega
        · have hd' : isD s[k] = false := by simpa using hd
          have hp := unhide Hno (not_all_of s k hlt isD hd')
          have hq : s[k].toNat < 48 ∨ 57 < s[k].toNat := by
            by_cases hc : 48 ≤ s[k].toNat ∧ s[k].toNat ≤ 57
            · exact absurd (isD_iff.2 hc) hd
            · omega
          have H := hide hp
          clear hp hd hd'
          rcases hq with hq | hq
          · go_wp2
            go_ret2
            exact ⟨ret_part (partN_no (unhide H)).symm (unhide H).symm, rfl⟩
          · go_wp2
            go_ret2
            exact ⟨ret_part (partN_no (unhide H)).symm (unhide H).symm, rfl⟩
      · have hp := unhide Hok (all_of_size s k (by omega) isD hall)
        have H := hide hp
        have hkk : s.data.toList.take k = s.data.toList := List.take_of_length_le (by omega)
        rw [hkk]
        clear hp hall Hall hkk
        go_wp2
        go_ret2
        exact ⟨ret_part (partN_yes (unhide H)).symm (unhide H).symm, rfl⟩
  · clear h4
    go_enter Tryz.func70, Tryz.ntmps70
    go_wp2
    go_loop [4, 26] (fun n i => ∃ k : Nat, k ≤ s.size ∧ i = .int .i64 k ∧ n = .int .i64 (num (s.data.toList.take k) : Int) ∧ (s.data.toList.take k).all isD = true) (fun _ i => s.size - (intOf i).toNat)
    case atStart => exact ⟨0, Nat.zero_le _, rfl, rfl, by simp⟩
    case round =>
      obtain ⟨k, hk, rfl, rfl, hall⟩ := hrel
      have Hall := hide hall
      by_cases hlt : k < s.size
      · have hsm := num_small s k (by omega) hall
        have Hnt := hide (num_take s k hlt)
        clear hall
        obtain ⟨n, hn⟩ : ∃ n, num (s.data.toList.take k) = n := ⟨_, rfl⟩
        rw [hn] at hsm Hnt ⊢
        clear hn
        by_cases hd : isD s[k] = true
        · have hd1 := (isD_iff.1 hd).1
          have hd2 := (isD_iff.1 hd).2
          have Hd := hide hd
          clear hd
          go_wp2
          go_round
          case rel => exact ⟨k + 1, by omega, by go_num, by rw [unhide Hnt]; go_num, all_take_succ s k hlt isD (unhide Hall) (unhide Hd)⟩
          case measure => simp [intOf]; omega
        · have hd' : isD s[k] = false := by simpa using hd
          have hp := unhide Hno (not_all_of s k hlt isD hd')
          have hq : s[k].toNat < 48 ∨ 57 < s[k].toNat := by
            by_cases hc : 48 ≤ s[k].toNat ∧ s[k].toNat ≤ 57
            · exact absurd (isD_iff.2 hc) hd
            · omega
          have H := hide hp
          clear hp hd hd'
          rcases hq with hq | hq
          · go_wp2
            go_ret2
            exact ⟨ret_part (partN_no (unhide H)).symm (unhide H).symm, rfl⟩
          · go_wp2
            go_ret2
            exact ⟨ret_part (partN_no (unhide H)).symm (unhide H).symm, rfl⟩
      · have hp := unhide Hok (all_of_size s k (by omega) isD hall)
        have H := hide hp
        have hkk : s.data.toList.take k = s.data.toList := List.take_of_length_le (by omega)
        rw [hkk]
        clear hp hall Hall hkk
        go_wp2
        go_ret2
        exact ⟨ret_part (partN_yes (unhide H)).symm (unhide H).symm, rfl⟩

theorem index_hit {a b : List UInt8} (h : ∀ c ∈ a, c ≠ 46) : Lib.indexByte (a ++ 46 :: b) 46 = (a.length : Int) := by
  induction a with
  | nil => rfl
  | cons x a ih =>
    have hx : (x == 46) = false := by simpa using h x (by simp)
    have ih' := ih (fun c hc => h c (by simp [hc]))
    show Lib.indexByte (x :: (a ++ 46 :: b)) 46 = _
    rw [Lib.indexByte, if_neg (by simp [hx]), ih', if_neg (by simp)]
    simp
theorem index_miss {l : List UInt8} (h : ∀ c ∈ l, c ≠ 46) : Lib.indexByte l 46 = -1 := by
  induction l with
  | nil => rfl
  | cons x a ih =>
    have hx : (x == 46) = false := by simpa using h x (by simp)
    have ih' := ih (fun c hc => h c (by simp [hc]))
    rw [Lib.indexByte, if_neg (by simp [hx]), ih']
    rfl
theorem zba_eq {a : ByteArray} {l : List UInt8} (h : a.data.toList = l) : a = ⟨l.toArray⟩ := by rw [← h]
theorem ext_front (a b : List UInt8) : (ByteArray.mk (a ++ 46 :: b).toArray).extract 0 a.length = ⟨a.toArray⟩ := by
  apply zba_eq
  rw [← Lib.toList_data, Lib.extract_toList]
  show ((a ++ 46 :: b).drop 0).take (a.length - 0) = a
  simp
theorem ext_back (a b : List UInt8) (n : Nat) (hn : n = (a ++ 46 :: b).length) : (ByteArray.mk (a ++ 46 :: b).toArray).extract (a.length + 1) n = ⟨b.toArray⟩ := by
  subst hn
  apply zba_eq
  rw [← Lib.toList_data, Lib.extract_toList]
  show ((a ++ 46 :: b).drop (a.length + 1)).take ((a ++ 46 :: b).length - (a.length + 1)) = b
  rw [show (a ++ 46 :: b).drop (a.length + 1) = b from by simp]
  exact List.take_of_length_le (by simp; omega)
theorem ret_cut {a b c d : ByteArray} {x : Bool} (h : a = b) (h' : c = d) : Ending.returned (.tuple #[.string a, .string c, .bool x]) = .returned (.tuple #[.string b, .string d, .bool x]) := by rw [h, h']

set_option maxRecDepth 10000 in
set_option maxHeartbeats 400000 in
theorem cutlite_any (l : List UInt8) (w : World) (hl : l.length ≤ 140737488355328) :
    Calls Tryz.prog 89 #[.string ⟨l.toArray⟩, .string ⟨#[46]⟩] w fun e w' => ∃ b, e = .returned (.tuple #[.string ⟨(cutA l).toArray⟩, .string ⟨(cutZ l).toArray⟩, .bool b]) ∧ Below w.heap.size w w' := by
  have hz : (ByteArray.mk l.toArray).size = l.length := Lib.size_eq ⟨l.toArray⟩
  rcases dot_cases l with hd | ⟨a, b, rfl, hd⟩
  · have H := hide (cut_miss hd)
    have HI := hide (index_miss hd)
    clear hd
    go_enter Tryz.func89, Tryz.ntmps89
    go_wp2_with fail
    refine (Tryz.stringslite_Index_one ⟨l.toArray⟩ 46 _).mono ?_
    rintro e w1 ⟨rfl, rfl⟩
    rw [show Lib.indexByte (ByteArray.mk l.toArray).data.toList 46 = -1 from unhide HI]
    go_wp2_with fail
    go_ret3
    exact ⟨_, ret_cut (by rw [(unhide H).1]) (by rw [(unhide H).2]), Below.refl _ _⟩
  · have H := hide (cut_hit (b := b) hd)
    have HI := hide (index_hit (b := b) hd)
    have hlen : (a ++ 46 :: b).length = a.length + 1 + b.length := by simp; omega
    rw [hlen] at hz hl
    have HL := hide hlen
    have H1 := hide (ext_front a b)
    have H2 := hide (ext_back a b _ rfl)
    clear hd hlen
    obtain ⟨S, hS⟩ : ∃ S, (ByteArray.mk (a ++ 46 :: b).toArray) = S := ⟨_, rfl⟩
    rw [hS] at hz H1 H2 ⊢
    have HI' : Hid (Lib.indexByte S.data.toList 46 = (a.length : Int)) := hide (by rw [← hS]; exact unhide HI)
    have HE : Hid (S.extract (a.length + 1) (a.length + 1 + b.length) = ⟨b.toArray⟩) := hide (by rw [← unhide HL]; exact unhide H2)
    clear hS HI H2
    have c1 : (0 : Int) ≤ (a.length : Int) := by omega
    have c2 : (a.length : Int) ≤ (S.size : Int) := by omega
    have c3 : (0 : Int) ≤ (a.length : Int) + 1 := by omega
    have c4 : (a.length : Int) + 1 ≤ (S.size : Int) := by omega
    go_enter Tryz.func89, Tryz.ntmps89
    go_wp2_with fail
    refine (Tryz.stringslite_Index_one S 46 _).mono ?_
    rintro e w1 ⟨rfl, rfl⟩
    rw [unhide HI']
    go_wp2_with fail
    go_region
    go_wp2
    go_ret3
    exact ⟨_, ret_cut (by rw [(unhide H).1]; exact unhide H1) (by rw [(unhide H).2]; exact unhide HE), (Below.refl _ _).drew⟩

set_option maxRecDepth 10000 in
set_option maxHeartbeats 400000 in
theorem cut_any (l : List UInt8) (w : World) (hl : l.length ≤ 140737488355328) :
    Calls Tryz.prog 69 #[.string ⟨l.toArray⟩, .string ⟨#[46]⟩] w fun e w' => ∃ b, e = .returned (.tuple #[.string ⟨(cutA l).toArray⟩, .string ⟨(cutZ l).toArray⟩, .bool b]) ∧ Below w.heap.size w w' := by
  go_enter Tryz.func69, Tryz.ntmps69
  go_wp2_with fail
  refine (cutlite_any l _ hl).mono ?_
  rintro e w1 ⟨b, rfl, hb1⟩
  go_wp2_with fail
  go_ret3
  exact ⟨_, rfl, hb1⟩
theorem cut_len (l : List UInt8) : (cutA l).length ≤ l.length ∧ (cutZ l).length ≤ l.length := by
  constructor
  · exact (List.takeWhile_prefix _).length_le
  · rw [cutZ, List.length_drop]
    have := (List.dropWhile_suffix (l := l) (fun c => c != 46)).length_le
    omega

set_option maxRecDepth 10000 in
set_option maxHeartbeats 400000 in
theorem zread_any (l : List UInt8) (w : World) (hl : l.length ≤ 140737488355328) :
    Calls Tryz.prog 47 #[.string ⟨l.toArray⟩] w fun e w' => e = .returned (.tuple #[.int .i64 (zRead l), .int .i64 (zReadE l)]) ∧ Below w.heap.size w w' := by
  have hc := cut_len l
  have c1 := hc.1
  have c2 := hc.2
  clear hc
  cases h1 : partB (cutA l)
  · have H := hide (zRead_no (.inl h1))
    have HA : Hid (partN (cutA l) = 0 ∧ partB (cutA l) = false) := hide ⟨partN_no h1, h1⟩
    clear h1
    go_enter Tryz.func47, Tryz.ntmps47
    go_wp2_with fail
    refine (cut_any l _ hl).mono ?_
    rintro e w1 ⟨b, rfl, hb1⟩
    go_wp2_with fail
    refine (part_any ⟨(cutA l).toArray⟩ _ (by rw [Lib.size_eq]; show (cutA l).length ≤ _; omega)).mono ?_
    rintro e w2 ⟨rfl, rfl⟩
    rw [show (ByteArray.mk (cutA l).toArray).data.toList = cutA l from rfl, (unhide HA).1, (unhide HA).2]
    go_wp2_with fail
    refine (part_any ⟨(cutZ l).toArray⟩ _ (by rw [Lib.size_eq]; show (cutZ l).length ≤ _; omega)).mono ?_
    rintro e w2 ⟨rfl, rfl⟩
    rw [show (ByteArray.mk (cutZ l).toArray).data.toList = cutZ l from rfl]
    obtain ⟨B, hB⟩ : ∃ B, partB (cutZ l) = B := ⟨_, rfl⟩
    obtain ⟨M, hM⟩ : ∃ M, partN (cutZ l) = M := ⟨_, rfl⟩
    rw [hB, hM]
    clear hB hM HA
    go_wp2_with fail
    go_ret2
    exact ⟨ret_int2 (unhide H).1.symm (unhide H).2.symm, hb1⟩
  cases h2 : partB (cutZ l)
  · have H := hide (zRead_no (.inr h2))
    have HA : Hid (partN (cutA l) = num (cutA l) ∧ partB (cutA l) = true) := hide ⟨partN_yes h1, h1⟩
    have HZ : Hid (partN (cutZ l) = 0 ∧ partB (cutZ l) = false) := hide ⟨partN_no h2, h2⟩
    clear h1 h2
    go_enter Tryz.func47, Tryz.ntmps47
    go_wp2_with fail
    refine (cut_any l _ hl).mono ?_
    rintro e w1 ⟨b, rfl, hb1⟩
    go_wp2_with fail
    refine (part_any ⟨(cutA l).toArray⟩ _ (by rw [Lib.size_eq]; show (cutA l).length ≤ _; omega)).mono ?_
    rintro e w2 ⟨rfl, rfl⟩
    rw [show (ByteArray.mk (cutA l).toArray).data.toList = cutA l from rfl, (unhide HA).1, (unhide HA).2]
    go_wp2_with fail
    refine (part_any ⟨(cutZ l).toArray⟩ _ (by rw [Lib.size_eq]; show (cutZ l).length ≤ _; omega)).mono ?_
    rintro e w2 ⟨rfl, rfl⟩
    rw [show (ByteArray.mk (cutZ l).toArray).data.toList = cutZ l from rfl, (unhide HZ).1, (unhide HZ).2]
    go_wp2_with fail
    go_ret2
    exact ⟨ret_int2 (unhide H).1.symm (unhide H).2.symm, hb1⟩
  have H := hide (zRead_yes h1 h2)
  have HA : Hid (partN (cutA l) = num (cutA l) ∧ partB (cutA l) = true) := hide ⟨partN_yes h1, h1⟩
  have HZ : Hid (partN (cutZ l) = num (cutZ l) ∧ partB (cutZ l) = true) := hide ⟨partN_yes h2, h2⟩
  clear h1 h2
  go_enter Tryz.func47, Tryz.ntmps47
  go_wp2_with fail
  refine (cut_any l _ hl).mono ?_
  rintro e w1 ⟨b, rfl, hb1⟩
  go_wp2_with fail
  refine (part_any ⟨(cutA l).toArray⟩ _ (by rw [Lib.size_eq]; show (cutA l).length ≤ _; omega)).mono ?_
  rintro e w2 ⟨rfl, rfl⟩
  rw [show (ByteArray.mk (cutA l).toArray).data.toList = cutA l from rfl, (unhide HA).1, (unhide HA).2]
  go_wp2_with fail
  refine (part_any ⟨(cutZ l).toArray⟩ _ (by rw [Lib.size_eq]; show (cutZ l).length ≤ _; omega)).mono ?_
  rintro e w2 ⟨rfl, rfl⟩
  rw [show (ByteArray.mk (cutZ l).toArray).data.toList = cutZ l from rfl, (unhide HZ).1, (unhide HZ).2]
  go_wp2_with fail
  refine (zmake_any _ _ _).mono ?_
  rintro e w3 ⟨rfl, rfl⟩
  obtain ⟨X, hX⟩ : ∃ X, zMake (num (cutA l)) (num (cutZ l)) = X := ⟨_, rfl⟩
  obtain ⟨E, hE⟩ : ∃ E, zMakeE (num (cutA l)) (num (cutZ l)) = E := ⟨_, rfl⟩
  rw [hX, hE]
  rw [hX, hE] at H
  clear hX hE HA HZ
  go_wp2_with fail
  go_ret2
  exact ⟨ret_int2 (unhide H).1.symm (unhide H).2.symm, hb1⟩

end Go.Proofs.YtbkndjhogaloiaaGreatDoor

namespace Go.Proofs.YtbkndjhogaloiaaGreatDoor
open Go.RowKit

noncomputable def epochD (fs : List DF) : Int := zEpoch (zRead (readD fs epochN).1)
set_option maxRecDepth 10000 in
set_option maxHeartbeats 1000000 in
theorem sepoch_any (v : Value) (fs : List DF) (w : World) (hv : DiskV w v fs) (hs : Slim fs) :
    Calls Tryz.prog 22 #[.agg #[v]] w fun e w' => e = .returned (.int .i64 (epochD fs)) ∧ Below w.heap.size w w' := by
  have CR := fun W (h : DiskV W v fs) => read_any v fs epochN W h hs
  have hl := readD_len fs epochN
  unfold epochD
  generalize readD fs epochN = R at *
  obtain ⟨s, E⟩ := R
  simp only at CR hl ⊢
  simp only [show epochN.toArray = #[101, 112, 111, 99, 104] from rfl] at CR
  have CZ := fun W => zread_any s W (by omega)
  have CE := fun W => zepoch_any (zRead s) W
  generalize zRead s = z at *
  generalize zReadE s = ze at *
  have HV := hide hv
  obtain ⟨a, n, c, rfl⟩ := disk_slice hv
  clear hv hs hl
  go_enter Tryz.func22, Tryz.ntmps22
  go_wp2_with fail
  refine (CR _ ((unhide HV).next (allocB _ _))).mono ?_
  rintro e w1 ⟨rfl, hb1⟩
  have hB1 := nbox_then hb1
  clear hb1 CR
  go_wp2_with fail
  refine (CZ _).mono ?_
  rintro e w2 ⟨rfl, hb2⟩
  have hB2 := nnext hB1 hb2
  clear hb2 hB1 CZ
  go_wp2_with fail
  refine (CE _).mono ?_
  rintro e w3 ⟨rfl, rfl⟩
  go_wp2_with fail
  go_ret
  exact ⟨rfl, hB2⟩

end Go.Proofs.YtbkndjhogaloiaaGreatDoor

namespace Go.Proofs.YtbkndjhogaloiaaGreatDoor
open Go.RowKit

theorem below_next2 {a b c : World} (h : Below a.heap.size a b) (k : Below b.heap.size b c) : Below a.heap.size a c := h.trans (k.mono h.size)

set_option maxRecDepth 10000 in
set_option maxHeartbeats 400000 in
theorem last_any (v : Value) (ts : List WTxn) (w : World) (hv : LogV w v ts) :
    Calls Tryz.prog 40 #[v] w fun e w' => e = .returned (.int .i64 (lastZ ts)) ∧ w' = w := by
  by_cases h0 : ts.length = 0
  · obtain ⟨a, c, rfl⟩ := log_slice hv
    obtain rfl := List.length_eq_zero_iff.1 h0
    clear hv h0
    rw [lastZ_nil]
    go_enter Tryz.func40, Tryz.ntmps40
    go_wp2_with fail
    go_ret
    exact ⟨rfl, rfl⟩
  · obtain ⟨m, x, rfl⟩ := snoc_of h0
    have hi : (m ++ [x])[m.length]? = some x := by simp
    obtain ⟨b, off, cap, rfl, hb, hr, hlt, hc, hm⟩ := log_row hv hi
    have e := hr.z hi
    have hl : (m ++ [x]).length = m.length + 1 := by simp
    rw [lastZ_snoc, hl]
    simp only [maxLen] at hm
    rw [hl] at hc
    have hM : m.length < 9223372036854775807 := by omega
    clear hv h0 hr hi hl hlt hc hm
    generalize m.length = k at *
    go_enter Tryz.func40, Tryz.ntmps40
    go_wp2_with fail
    go_ret
    exact ⟨rfl, rfl⟩

set_option maxRecDepth 10000 in
set_option maxHeartbeats 400000 in
theorem follows_any (t : WTxn) (v : Value) (ts : List WTxn) (w : World) (hv : LogV w v ts) :
    Calls Tryz.prog 68 #[txnV t, v] w fun e w' => e = .returned (.bool (follB ts t)) ∧ Below w.heap.size w w' := by
  have C := fun W (h : Below w.heap.size w W) => last_any v ts W (hv.next h)
  obtain ⟨a, c, rfl⟩ := log_slice hv
  obtain ⟨z, o, s, p, d, y, u⟩ := t
  unfold txnV
  by_cases h0 : ts.length = 0
  · have hf : follB ts ⟨z, o, s, p, d, y, u⟩ = true := by simp [follB, h0]
    rw [hf, h0]
    clear C hv hf
    go_enter Tryz.func68, Tryz.ntmps68
    go_wp2_with fail
    go_region
    go_wp2_with fail
    go_ret
    exact ⟨rfl, ((Below.refl _ _).alloc (Nat.le_refl _) _).drew⟩
  · have hf : follB ts ⟨z, o, s, p, d, y, u⟩ = decide (lastZ ts < z) := by rw [follB_some h0]
    rw [hf]
    generalize lastZ ts = L at *
    have h0i : ((ts.length : Int) == 0) = false := by simpa using h0
    clear hv hf
    go_enter Tryz.func68, Tryz.ntmps68
    go_wp2_with fail
    go_region_with (first | (go_at_call 40; refine (C _ ?_).mono ?_; exact (((Below.refl _ _).alloc (Nat.le_refl _) _).drew); rintro e w1 ⟨rfl, rfl⟩))
    all_goals go_wp2_with fail
    all_goals go_ret
    all_goals exact ⟨rfl, ((Below.refl _ _).alloc (Nat.le_refl _) _).drew⟩
end Go.Proofs.YtbkndjhogaloiaaGreatDoor

namespace Go.Proofs.YtbkndjhogaloiaaGreatDoor
open Go.RowKit

/-- of what there was, block g alone may have turned; nothing is new -/
structure Only (g : Nat) (w w' : World) : Prop where
  os : w'.os = w.os
  tape : w'.tape = w.tape
  output : w'.output = w.output
  size : w'.heap.size = w.heap.size
  block : ∀ k, k ≠ g → w'.heap[k]? = w.heap[k]?
theorem Only.refl (g : Nat) (w : World) : Only g w w := ⟨rfl, rfl, rfl, rfl, fun _ _ => rfl⟩
theorem Only.trans {g : Nat} {a b c : World} (h : Only g a b) (k : Only g b c) : Only g a c :=
  ⟨k.os.trans h.os, k.tape.trans h.tape, k.output.trans h.output, k.size.trans h.size, fun i hi => (k.block i hi).trans (h.block i hi)⟩
theorem Only.below {B g : Nat} {a w w' : World} (h : Only g w w') (hb : Below B a w) (hg : B ≤ g) : Below B a w' :=
  hb.trans ⟨h.os, h.tape, h.output, Nat.le_of_eq h.size.symm, fun k hk => h.block k (by omega)⟩
theorem Only.setCell {g : Nat} {a w : World} (h : Only g a w) (j : Nat) (v : Value) : Only g a (w.setCell ⟨g, j, none⟩ v) :=
  h.trans ⟨rfl, rfl, rfl, by simp [World.setCell], fun k hk => Below.heap_setCell _ _ _ _ hk⟩

/-- a cursor's two cells -/
def Cur (W : World) (g : Nat) (rest : List UInt8) (short : Bool) : Prop := W.heap[g]? = some (.cells #[.string ⟨rest.toArray⟩, .bool short] 142 (0, 0))
theorem Cur.c0 {W : World} {g : Nat} {r : List UInt8} {b : Bool} (h : Cur W g r b) : W.cell? ⟨g, 0, none⟩ = some (.string ⟨r.toArray⟩) := by unfold Cur at h; simp [World.cell?, h]
theorem Cur.c1 {W : World} {g : Nat} {r : List UInt8} {b : Bool} (h : Cur W g r b) : W.cell? ⟨g, 1, none⟩ = some (.bool b) := by unfold Cur at h; simp [World.cell?, h]
theorem Cur.f {W : World} {g : Nat} {r : List UInt8} {b : Bool} (h : Cur W g r b) (j : Nat) : W.frozen? ⟨g, j, none⟩ = false := by unfold Cur at h; simp [World.frozen?, h]
theorem cur_set {w : World} {g j : Nat} {cur : Array Value} {t : TypeId} {fz : Nat × Nat} (v : Value) (h : w.heap[g]? = some (.cells cur t fz)) :
    (w.setCell ⟨g, j, none⟩ v).heap[g]? = some (.cells (cur.setIfInBounds j v) t fz) := by
  obtain ⟨hlt, hk⟩ := Array.getElem?_eq_some_iff.1 h
  show (w.heap.modify g _)[g]? = _
  rw [Array.getElem?_eq_getElem (by rw [Array.size_modify]; exact hlt), Array.getElem_modify_self, hk]
  rfl
theorem Cur.s0 {W : World} {g : Nat} {r : List UInt8} {b : Bool} (h : Cur W g r b) (r' : List UInt8) : Cur (W.setCell ⟨g, 0, none⟩ (.string ⟨r'.toArray⟩)) g r' b := cur_set _ h
theorem Cur.s1 {W : World} {g : Nat} {r : List UInt8} {b : Bool} (h : Cur W g r b) (b' : Bool) : Cur (W.setCell ⟨g, 1, none⟩ (.bool b')) g r b' := cur_set _ h
theorem Cur.kept {W V : World} {g B : Nat} {r : List UInt8} {b : Bool} (h : Cur W g r b) (hb : Below B W V) (hg : g < B) : Cur V g r b := (hb.block _ hg).trans h
theorem Cur.other {W V : World} {g k : Nat} {r : List UInt8} {b : Bool} (h : Cur W g r b) (ho : Only k W V) (hg : g ≠ k) : Cur V g r b := (ho.block _ hg).trans h

theorem ex_front (l : List UInt8) (d : Nat) : (ByteArray.mk l.toArray).extract 0 d = ⟨(l.take d).toArray⟩ := by
  apply ByteArray.ext
  apply Array.toList_inj.1
  have h := Lib.extract_toList (ByteArray.mk l.toArray) 0 d
  rw [Lib.toList_data] at h
  refine h.trans ?_
  show (l.drop 0).take (d - 0) = _
  simp
theorem ex_back (l : List UInt8) (d : Nat) : (ByteArray.mk l.toArray).extract d l.length = ⟨(l.drop d).toArray⟩ := by
  apply ByteArray.ext
  apply Array.toList_inj.1
  have h := Lib.extract_toList (ByteArray.mk l.toArray) d l.length
  rw [Lib.toList_data] at h
  refine h.trans ?_
  show (l.drop d).take (l.length - d) = l.drop d
  exact List.take_of_length_le (by simp)
theorem ret_txt {a b : ByteArray} (h : a = b) : Ending.returned (.string a) = .returned (.string b) := by rw [h]

set_option maxRecDepth 10000 in
set_option maxHeartbeats 1000000 in
theorem text_any (g n : Nat) (r : List UInt8) (b : Bool) (w : World) (hn : n ≤ 140737488355328) (hc : Cur w g r b) :
    Calls Tryz.prog 84 #[.pointer (some ⟨g, 0, none⟩), .int .i64 n] w fun e w' => e = .returned (.string ⟨(r.take n).toArray⟩) ∧ Cur w' g (r.drop n) (b || decide (r.length < n)) ∧ Only g w w' := by
  have hz : (ByteArray.mk r.toArray).size = r.length := Lib.size_eq ⟨r.toArray⟩
  have h0 := hc.c0
  have h1 := hc.c1
  have hf0 := hc.f 0
  have hf1 := hc.f 1
  have HC := hide hc
  clear hc
  by_cases hlt : r.length < n
  · go_enter Tryz.func84, Tryz.ntmps84
    go_wp2
    go_ret
    refine ⟨ret_txt ?_, ?_, ((Only.refl g w).setCell 1 _).setCell 0 _⟩
    · rw [ex_front, List.take_length, List.take_of_length_le (by omega)]
    · rw [List.drop_of_length_le (by omega), decide_eq_true hlt, Bool.or_true]
      exact ((unhide HC).s1 true).s0 []
  · go_enter Tryz.func84, Tryz.ntmps84
    go_wp2
    go_ret
    refine ⟨ret_txt (ex_front r n), ?_, (Only.refl g w).setCell 0 _⟩
    rw [ex_back, decide_eq_false hlt, Bool.or_false]
    exact (unhide HC).s0 _

/- numbers out of bytes, eight at most -/
theorem or_def (x y : Int) : bits .or .i64 x y = IntKind.i64.wrap ((BitVec.ofInt 64 x ||| BitVec.ofInt 64 y).toNat : Int) := rfl
theorem or_byte (t b : Nat) (ht : t < 72057594037927936) (hb : b < 256) : bits .or .i64 (wrap64 ((t : Int) * 256)) (b : Int) = wrap64 ((t * 256 + b : Nat) : Int) := by
  have e1 : BitVec.ofInt 64 (wrap64 ((t : Int) * 256)) = BitVec.ofNat 64 (t * 256) := by
    apply BitVec.eq_of_toNat_eq
    rw [BitVec.toNat_ofInt, BitVec.toNat_ofNat]
    unfold wrap64
    omega
  have e2 : (BitVec.ofNat 64 (t * 256) ||| BitVec.ofInt 64 (b : Int)).toNat = t * 256 + b := by
    rw [BitVec.ofInt_natCast, BitVec.toNat_or, BitVec.toNat_ofNat, BitVec.toNat_ofNat, Nat.mod_eq_of_lt (by omega), Nat.mod_eq_of_lt (by omega)]
    have := Nat.two_pow_add_eq_or_of_lt (i := 8) (b := b) (by omega) t
    rw [Nat.mul_comm t 256]
    exact this.symm
  rw [or_def, e1, e2, IntKind.wrap_i64, wrap64]
theorem un_small {l : List UInt8} (h : l.length ≤ 7) : un l < 72057594037927936 := by
  have h1 := un_lt l
  have h2 : 256 ^ l.length ≤ 256 ^ 7 := Nat.pow_le_pow_right (by decide) h
  have h3 : (256 : Nat) ^ 7 = 72057594037927936 := by decide
  omega
theorem un_take (l : List UInt8) (k : Nat) (h : k < l.length) : un (l.take (k + 1)) = un (l.take k) * 256 + l[k].toNat := by
  rw [List.take_succ_eq_append_getElem h, un_snoc]

theorem ret_ci {a b : Int} (h : a = b) : Ending.returned (.int .i64 a) = .returned (.int .i64 b) := by rw [h]
theorem i64_c {a b : Int} (h : a = b) : Value.int .i64 a = .int .i64 b := by rw [h]
theorem ba_get (l : List UInt8) (k : Nat) (h : k < (ByteArray.mk l.toArray).size) : (ByteArray.mk l.toArray)[k] = l[k]'(by rwa [Lib.size_eq] at h) := rfl

set_option maxRecDepth 10000 in
set_option maxHeartbeats 1000000 in
theorem cnumber_any (g n : Nat) (r : List UInt8) (b : Bool) (w : World) (hn : n ≤ 8) (hc : Cur w g r b) :
    Calls Tryz.prog 85 #[.pointer (some ⟨g, 0, none⟩), .int .i64 n] w fun e w' => e = .returned (.int .i64 (wrap64 (un (r.take n) : Nat))) ∧ Cur w' g (r.drop n) (b || decide (r.length < n)) ∧ Only g w w' := by
  have HC := hide hc
  clear hc
  go_enter Tryz.func85, Tryz.ntmps85
  go_wp2_with fail
  refine (text_any g n r b _ (by omega) (unhide HC)).mono ?_
  rintro e w1 ⟨rfl, hc1, ho1⟩
  have H1 := hide hc1
  clear hc1 HC
  obtain ⟨p, hp⟩ : ∃ p, r.take n = p := ⟨_, rfl⟩
  have hpl : p.length ≤ 8 := by rw [← hp, List.length_take]; omega
  rw [hp]
  have Hp := hide hp
  clear hp
  have hz : (ByteArray.mk p.toArray).size = p.length := Lib.size_eq ⟨p.toArray⟩
  go_wp2_with fail
  go_loop [6, 13] (fun t i => ∃ k : Nat, k ≤ p.length ∧ i = .int .i64 k ∧ t = .int .i64 (wrap64 (un (p.take k) : Nat))) (fun _ i => p.length - (intOf i).toNat)
  case atStart => exact ⟨0, Nat.zero_le _, rfl, i64_c (by simp [un, wrap64])⟩
  case round =>
    obtain ⟨k, hk, rfl, rfl⟩ := hrel
    by_cases hlt : k < p.length
    · have Hs := hide (un_take p k hlt)
      have hsm := un_small (l := p.take k) (by rw [List.length_take]; omega)
      obtain ⟨x, hx⟩ : ∃ x, un (p.take k) = x := ⟨_, rfl⟩
      rw [hx] at hsm Hs ⊢
      clear hx
      rw [show wrap64 (x : Int) = x from by unfold wrap64; omega]
      have hb := p[k].toNat_lt
      go_wp2_with fail
      refine ⟨⟨k + 1, by omega, by go_num, i64_c ?_⟩, by simp [intOf]; omega⟩
      rw [unhide Hs, ba_get, show wrap64 ((p[k].toNat : Nat) : Int) = (p[k].toNat : Int) from by unfold wrap64; omega]
      exact or_byte x _ hsm (by omega)
    · obtain rfl : k = p.length := by omega
      rw [List.take_length]
      go_wp2_with fail
      go_ret
      exact ⟨ret_ci (by rw [unhide Hp]), unhide H1, ho1⟩

set_option maxRecDepth 10000 in
set_option maxHeartbeats 400000 in
theorem along_any (s : List UInt8) (w : World) :
    Calls Tryz.prog 83 #[.string ⟨s.toArray⟩] w fun e w' => e = .returned (.pointer (some ⟨w.heap.size, 0, none⟩)) ∧ w' = w.alloc (.cells #[.string ⟨s.toArray⟩, .bool false] 142) := by
  go_enter Tryz.func83, Tryz.ntmps83
  go_wp2_with fail
  go_ret
  exact ⟨rfl, rfl⟩
set_option maxRecDepth 10000 in
set_option maxHeartbeats 400000 in
theorem short_any (g : Nat) (r : List UInt8) (b : Bool) (w : World) (h : Cur w g r b) :
    Calls Tryz.prog 87 #[.pointer (some ⟨g, 0, none⟩)] w fun e w' => e = .returned (.bool b) ∧ w' = w := by
  have c1 := h.c1
  go_enter Tryz.func87, Tryz.ntmps87
  go_wp2_with fail
  go_ret
  exact ⟨rfl, rfl⟩
set_option maxRecDepth 10000 in
set_option maxHeartbeats 400000 in
theorem left_any (g : Nat) (r : List UInt8) (b : Bool) (w : World) (h : Cur w g r b) :
    Calls Tryz.prog 86 #[.pointer (some ⟨g, 0, none⟩)] w fun e w' => e = .returned (.int .i64 r.length) ∧ w' = w := by
  have c0 := h.c0
  have hz : (ByteArray.mk r.toArray).size = r.length := Lib.size_eq ⟨r.toArray⟩
  go_enter Tryz.func86, Tryz.ntmps86
  go_wp2_with fail
  go_ret
  exact ⟨rfl, rfl⟩
end Go.Proofs.YtbkndjhogaloiaaGreatDoor
