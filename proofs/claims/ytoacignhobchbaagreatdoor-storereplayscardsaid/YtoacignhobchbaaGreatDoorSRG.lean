/-
  What the disk's calls come to, as plain lists: good disks stay good; where a name stands behind a change; what is read. No program is named here.
  What it is that a call on a disk gives a disk.
  How a server lies in memory: one flat value of ten, five of them rows; what stays when other memory turns.
  Transactions as laid elements.
  What path.opening, path.Under and path.Join answer, for all texts: the walks.
  What path.Split answers, for every text: the last slash, and the walk.
  What tree.find, tree.Open, tree.copied and tree.Get answer, with slices.BinarySearchFunc's and slices.BinarySearch's own texts: the walks.
  Copies of runs: the builtin's own laws, whatever the elements are.
  Runs of cells stored into a row of the call's own, whatever its elements are; copies of runs.
-/
import Derived.Test.YtoacignhobchbaaGreatDoorSRF
import Derived.Test.YtoacignhobchbaaGreatDoorSRD
import Derived.Test.YtoacignhobchbaaGreatDoorSRB
import Derived.Test.YtoacignhobchbaaGreatDoorSRC
import Derived.Lib.LastIndexByte
import Derived.Lib.QuietBelow
import Derived.Test.YtoacignhobchbaaGreatDoorShelf
import Derived.Laws.IdiomCopy
import Derived.Lib.AppendZeros
import Derived.Lib.JoinLaws
import Derived.Lib.SliceRun
import Derived.Deep.RegionHeld3
import Derived.BigQuiet
import Derived.Deep.RegionLaw
import Derived.Lib.AppendZerosOnto
import Derived.Lib.Overlaps
import Derived.Laws.Externs
import Derived.Maps.AppendAt
namespace Go.Proofs.YtoacignhobchbaaGreatDoor
open Go.RowKit

theorem good_slim {fs : List DF} (g : GoodD fs) : Slim fs := fun f hf => by
  have h := g.ok f hf
  have h1 := fileOk_len h
  have h2 := fileOk_named h
  simp only [namedB, Bool.and_eq_true, decide_eq_true_eq] at h2
  omega
theorem good_set {A B : List DF} {f f' : DF} (g : GoodD (A ++ f :: B)) (hn : f'.n = f.n) (hl : f'.s.length + f'.t.length ≤ 1048576) : GoodD (A ++ f' :: B) := by
  refine ⟨by simpa using g.few, ?_, ?_⟩
  · intro x hx
    rcases List.mem_append.1 hx with h | h
    · exact g.ok x (by simp [h])
    · rcases List.mem_cons.1 h with rfl | h
      · have := fileOk_named (g.ok f (by simp))
        simp [fileOk, hn, this, hl]
      · exact g.ok x (by simp [h])
  · have h := g.asc
    unfold Asc at h ⊢
    rw [List.pairwise_append, List.pairwise_cons] at h ⊢
    refine ⟨h.1, ⟨fun b hb => by rw [hn]; exact h.2.1.1 b hb, h.2.1.2⟩, fun a ha b hb => ?_⟩
    rcases List.mem_cons.1 hb with rfl | hb
    · rw [hn]; exact h.2.2 a ha f (by simp)
    · exact h.2.2 a ha b (by simp [hb])
theorem good_ins {fs A B : List DF} {name : List UInt8} (g : GoodD fs) (G : Gap fs A B name) (hn : namedB name = true) (hl : fs.length < 16) {f' : DF} (hf : f'.n = name) (hs : f'.s.length + f'.t.length ≤ 1048576) : GoodD (A ++ f' :: B) := by
  have g' := g
  rw [G.eq] at g' hl
  refine ⟨by simp at hl ⊢; omega, ?_, ?_⟩
  · intro x hx
    rcases List.mem_append.1 hx with h | h
    · exact g'.ok x (by simp [h])
    · rcases List.mem_cons.1 h with rfl | h
      · simp [fileOk, hf, hn, hs]
      · exact g'.ok x (by simp [h])
  · have h := g'.asc
    unfold Asc at h ⊢
    rw [List.pairwise_append] at h
    rw [List.pairwise_append, List.pairwise_cons]
    refine ⟨h.1, ⟨fun b hb => by rw [hf]; exact G.hi b hb, h.2.1⟩, fun a ha b hb => ?_⟩
    rcases List.mem_cons.1 hb with rfl | hb
    · rw [hf]; exact G.lo a ha
    · exact h.2.2 a ha b hb
theorem There.set {fs A B : List DF} {f : DF} {name : List UInt8} (T : There fs A f B name) {f' : DF} (hf : f'.n = name) : There (A ++ f' :: B) A f' B name := ⟨rfl, hf, T.lo, T.hi⟩
theorem Gap.ins {fs A B : List DF} {name : List UInt8} (G : Gap fs A B name) {f' : DF} (hf : f'.n = name) : There (A ++ f' :: B) A f' B name := ⟨rfl, hf, G.lo, G.hi⟩
/- what is read -/
def lookD (fs : List DF) (name : List UInt8) : Option DF := fs.find? fun f => decide (f.n = name)
theorem There.look {fs A B : List DF} {f : DF} {name : List UInt8} (T : There fs A f B name) : lookD fs name = some f := by
  rw [lookD, T.eq, List.find?_append, List.find?_eq_none.2 (fun a ha => by simp [bl_ne (T.lo a ha)])]
  simp [T.nm]
theorem Gap.look {fs A B : List DF} {name : List UInt8} (G : Gap fs A B name) : lookD fs name = none := by
  rw [lookD, G.eq, List.find?_append, List.find?_eq_none.2 (fun a ha => by simp [bl_ne (G.lo a ha)]), List.find?_eq_none.2 (fun b hb => by simp [(bl_ne (G.hi b hb)).symm])]
  rfl
noncomputable def readD (fs : List DF) (name : List UInt8) : List UInt8 × Int := if goodD fs = true then match lookD fs name with
  | some f => (f.s ++ f.t, 0)
  | none => ([], 7) else ([], 3)
theorem readD_bad {fs : List DF} {name : List UInt8} (h : goodD fs = false) : readD fs name = ([], 3) := by simp [readD, h]
theorem readD_there {fs A B : List DF} {f : DF} {name : List UInt8} (g : GoodD fs) (T : There fs A f B name) : readD fs name = (f.s ++ f.t, 0) := by simp [readD, goodD_true.2 g, T.look]
theorem readD_gap {fs A B : List DF} {name : List UInt8} (g : GoodD fs) (G : Gap fs A B name) : readD fs name = ([], 7) := by simp [readD, goodD_true.2 g, G.look]
theorem readD_len (fs : List DF) (name : List UInt8) : (readD fs name).1.length ≤ 1048576 := by
  rcases loc_cases fs name with ⟨E, ⟨h, _⟩ | ⟨g, ⟨A, B, G⟩, _⟩⟩ | ⟨g, A, f, B, T⟩
  · rw [readD_bad h]; simp
  · rw [readD_gap g G]; simp
  · rw [readD_there g T]; have := fileOk_len (T.ok g); simp; omega
theorem read_any (v : Value) (fs : List DF) (name : List UInt8) (w : World) (hv : DiskV w v fs) (hs : Slim fs) :
    Calls Tryz.prog 60 #[.agg #[v], .string ⟨name.toArray⟩] w fun e w' => e = .returned (.tuple #[.string ⟨(readD fs name).1.toArray⟩, .int .i64 (readD fs name).2]) ∧ Below w.heap.size w w' := by
  rcases loc_cases fs name with ⟨E, h⟩ | ⟨g, A, f, B, T⟩
  · have h' := read_no v fs name E w hv hs h
    rcases h with ⟨h, rfl⟩ | ⟨g, ⟨A, B, G⟩, rfl⟩
    · rw [readD_bad h]; exact h'
    · rw [readD_gap g G]; exact h'
  · rw [readD_there g T]; exact read_there v fs A B f name w hv hs g T

/- what is written -/
/-- a file was written: the disk then, and what it held ahead of it -/
structure Wrote (fs : List DF) (name x : List UInt8) (A : List DF) (f' : DF) (B : List DF) (s0 t0 : List UInt8) : Prop where
  good : GoodD fs
  after : GoodD (A ++ f' :: B)
  at_ : There (A ++ f' :: B) A f' B name
  eq : f' = ⟨name, s0, t0 ++ x⟩
  old : (∃ f, There fs A f B name ∧ f.s = s0 ∧ f.t = t0) ∨ (Gap fs A B name ∧ s0 = [] ∧ t0 = [])
theorem Wrote.len {fs A B : List DF} {name x s0 t0 : List UInt8} {f' : DF} (W : Wrote fs name x A f' B s0 t0) : s0.length + t0.length + x.length ≤ 1048576 := by
  have := fileOk_len (W.after.ok f' (by simp))
  rw [W.eq] at this
  simp at this
  omega
end Go.Proofs.YtoacignhobchbaaGreatDoor

namespace Go.Proofs.YtoacignhobchbaaGreatDoor
open Go.RowKit

/-- a call on a disk of these files says E, and hands back a disk of those -/
def GivesD (f : FuncId) (args : Value → Array Value) (fs d : List DF) (E : Int) : Prop := ∀ v W, DiskV W v fs → Calls Tryz.prog f (args (.agg #[v])) W fun e w' => ∃ a n c, e = .returned (.tuple #[.agg #[.slice a n c], .int .i64 E]) ∧ Hid (DiskV w' (.slice a n c) d) ∧ Below W.heap.size W w'
theorem gives_own {f : FuncId} {args : Value → Array Value} {fs d : List DF} (h : ∀ v W, DiskV W v fs → Calls Tryz.prog f (args (.agg #[v])) W fun e w' => ∃ v', e = .returned (.tuple #[.agg #[v'], .int .i64 0]) ∧ OwnV w' W.heap.size v' d ∧ Below W.heap.size W w') : GivesD f args fs d 0 :=
  fun v W hv => (h v W hv).mono fun _ w' ⟨v', he, ho, hb⟩ => by
    obtain ⟨a, n, c, rfl⟩ := disk_slice ho.disk
    exact ⟨a, n, c, he, ho.disk, hb⟩
end Go.Proofs.YtoacignhobchbaaGreatDoor

namespace Go.Proofs.YtoacignhobchbaaGreatDoor
open Go.RowKit

/-- the value holds this server -/
def SvV (w : World) (v : Value) (s : Sv) : Prop := ∃ vd vl vn vs vw, v = .agg #[.bool s.up, vd, .int .i64 s.id, .int .i64 s.ep, vl, .int .i64 s.dn, .int .i64 s.tr.z, vn, vs, vw] ∧ DiskV w vd s.fs ∧ LogV w vl s.ts ∧ SeqV w vn s.tr.ns ∧ SeqV w vs s.tr.ss ∧ SeqV w vw s.ws
theorem SvV.next {w w' : World} {v : Value} {s : Sv} (h : SvV w v s) (hb : Below w.heap.size w w') : SvV w' v s := by
  obtain ⟨vd, vl, vn, vs, vw, rfl, h1, h2, h3, h4, h5⟩ := h
  exact ⟨vd, vl, vn, vs, vw, rfl, h1.next hb, h2.next hb, h3.next hb, h4.next hb, h5.next hb⟩
theorem SvV.alloc {w : World} {v : Value} {s : Sv} (h : SvV w v s) (o : Obj) : SvV (w.alloc o) v s := h.next (allocB _ _)
theorem SvV.drew {w : World} {v : Value} {s : Sv} (h : SvV w v s) : SvV w.drew v s := h.next (Below.refl _ _).drew
/-- its five rows as slices -/
theorem SvV.five {w : World} {v : Value} {s : Sv} (h : SvV w v s) : ∃ ad nd cd al cl an cn ai ci aw cw,
    v = .agg #[.bool s.up, .slice ad nd cd, .int .i64 s.id, .int .i64 s.ep, .slice al s.ts.length cl, .int .i64 s.dn, .int .i64 s.tr.z, .slice an s.tr.ns.length cn, .slice ai s.tr.ss.length ci, .slice aw s.ws.length cw] ∧
    DiskV w (.slice ad nd cd) s.fs ∧ LogV w (.slice al s.ts.length cl) s.ts ∧ SeqV w (.slice an s.tr.ns.length cn) s.tr.ns ∧ SeqV w (.slice ai s.tr.ss.length ci) s.tr.ss ∧ SeqV w (.slice aw s.ws.length cw) s.ws := by
  obtain ⟨vd, vl, vn, vs, vw, rfl, h1, h2, h3, h4, h5⟩ := h
  obtain ⟨ad, nd, cd, rfl⟩ := disk_slice h1
  obtain ⟨al, cl, rfl⟩ := log_slice h2
  obtain ⟨an, cn, rfl⟩ := seq_slice h3
  obtain ⟨ai, ci, rfl⟩ := seq_slice h4
  obtain ⟨aw, cw, rfl⟩ := seq_slice h5
  exact ⟨ad, nd, cd, al, cl, an, cn, ai, ci, aw, cw, rfl, h1, h2, h3, h4, h5⟩
/-- the empty one -/
def svZ : Value := .agg #[.bool false, .slice none 0 0, .int .i64 0, .int .i64 0, .slice none 0 0, .int .i64 0, .int .i64 0, .slice none 0 0, .slice none 0 0, .slice none 0 0]
theorem SvV.zero (w : World) : SvV w svZ sv0 := ⟨_, _, _, _, _, rfl, DiskV.nil w, LogV.nil w, SeqV.nil w, SeqV.nil w, SeqV.nil w⟩
/-- a call hands back a server, and says E -/
def GivesV (w : World) (s : Sv) (E : Int) (e : Ending) (w' : World) : Prop := ∃ v, e = .returned (.tuple #[v, .int .i64 E]) ∧ SvV w' v s ∧ Below w.heap.size w w'
theorem GivesV.later {w W w' : World} {s : Sv} {E : Int} {e : Ending} (h : GivesV W s E e w') (hb : Below w.heap.size w W) : GivesV w s E e w' := by
  obtain ⟨v, he, h1, h2⟩ := h
  exact ⟨v, he, h1, nnext hb h2⟩

end Go.Proofs.YtoacignhobchbaaGreatDoor

namespace Go.Proofs.YtoacignhobchbaaGreatDoor
open Go.RowKit

instance layX : Lay WTxn := ⟨7, tcells, 53, fun _ => rfl, fun x u hu => tcells_one x u hu⟩
theorem cellsT_L (ts : List WTxn) : cellsL ts = cellsT ts := by
  induction ts with
  | nil => rfl
  | cons f r ih => rw [cellsL_cons, ih]; rfl
theorem seq_log {w : World} {v : Value} {ts : List WTxn} : SeqV w v ts ↔ LogV w v ts := by unfold SeqV LogV; rw [cellsT_L]
end Go.Proofs.YtoacignhobchbaaGreatDoor

namespace Go.Proofs.YtoacignhobchbaaGreatDoor
open Go.RowKit Go.Shelf

/-- what all paths below a path begin with -/
def openL (l : List UInt8) : List UInt8 := if l = [47] then [47] else l ++ [47]
theorem openL_root : openL [47] = [47] := by rw [openL, if_pos rfl]
theorem openL_other {l : List UInt8} (h : l ≠ [47]) : openL l = l ++ [47] := by rw [openL, if_neg h]
theorem openL_length (l : List UInt8) : (openL l).length ≤ l.length + 1 := by
  unfold openL
  split
  · simp
  · simp
set_option maxRecDepth 10000 in
set_option maxHeartbeats 400000 in
theorem opening_any (l : List UInt8) (w : World) (hl : l.length ≤ 140737488355328) :
    Calls Tryz.prog 147 #[.string ⟨l.toArray⟩] w fun e w' => e = .returned (.string ⟨(openL l).toArray⟩) ∧ w' = w := by
  have hz : (ByteArray.mk l.toArray).size = l.length := Lib.size_eq ⟨l.toArray⟩
  by_cases h : l = [47]
  · subst h
    go_enter Tryz.func147, Tryz.ntmps147
    go_wp2
    go_ret
    exact ⟨ret_str (by rw [openL_root]), rfl⟩
  · have h1 : (l == [47]) = false := by simpa using h
    have Ho := hide (openL_other h)
    clear h
    go_enter Tryz.func147, Tryz.ntmps147
    go_wp2
    go_ret
    exact ⟨ret_str (by rw [unhide Ho]; exact cat_one l [47]), rfl⟩

/-- what Join answers: the path, or nothing; and the error's number -/
def joinS (d m : List UInt8) : List UInt8 := if goodB d && namedB m then (if (openL d ++ m).length ≤ 200 then openL d ++ m else []) else []
def joinE (d m : List UInt8) : Int := if goodB d && namedB m then (if (openL d ++ m).length ≤ 200 then 0 else 1) else 2
theorem join_bad {d m : List UInt8} (h : (goodB d && namedB m) = false) : joinS d m = [] ∧ joinE d m = 2 := by
  unfold joinS joinE
  rw [h]
  exact ⟨rfl, rfl⟩
theorem join_long {d m : List UInt8} (h : (goodB d && namedB m) = true) (h1 : 200 < (openL d ++ m).length) : joinS d m = [] ∧ joinE d m = 1 := by
  unfold joinS joinE
  rw [if_pos h, if_pos h, if_neg (by omega), if_neg (by omega)]
  exact ⟨rfl, rfl⟩
theorem join_fits {d m : List UInt8} (h : (goodB d && namedB m) = true) (h1 : (openL d ++ m).length ≤ 200) : joinS d m = openL d ++ m ∧ joinE d m = 0 := by
  unfold joinS joinE
  rw [if_pos h, if_pos h, if_pos h1, if_pos h1]
  exact ⟨rfl, rfl⟩
set_option maxRecDepth 10000 in
set_option maxHeartbeats 1000000 in
theorem join_any (d m : List UInt8) (w : World) (hm : m.length ≤ 140737488355328) :
    Calls Tryz.prog 120 #[.string ⟨d.toArray⟩, .string ⟨m.toArray⟩] w fun e w' => e = .returned (.tuple #[.string ⟨(joinS d m).toArray⟩, .int .i64 (joinE d m)]) ∧ Below w.heap.size w w' := by
  cases hd : goodB d
  · obtain ⟨h1, h2⟩ := join_bad (d := d) (m := m) (by rw [hd]; rfl)
    have H1 := hide h1
    have H2 := hide h2
    have Hd := hide hd
    clear h1 h2 hd
    go_enter Tryz.func120, Tryz.ntmps120
    go_wp2_with fail
    refine (good_any _ _).mono ?_
    rintro e w1 ⟨rfl, hb1⟩
    rw [show (ByteArray.mk d.toArray).data.toList = d from rfl, unhide Hd]
    go_wp2_with fail
    go_ret2
    exact ⟨ret_strE (by rw [unhide H1]) (unhide H2).symm, hb1⟩
  cases hn : namedB m
  · obtain ⟨h1, h2⟩ := join_bad (d := d) (m := m) (by rw [hn, Bool.and_false])
    have H1 := hide h1
    have H2 := hide h2
    have Hd := hide hd
    have Hn := hide hn
    clear h1 h2 hd hn
    go_enter Tryz.func120, Tryz.ntmps120
    go_wp2_with fail
    refine (good_any _ _).mono ?_
    rintro e w1 ⟨rfl, hb1⟩
    rw [show (ByteArray.mk d.toArray).data.toList = d from rfl, unhide Hd]
    go_wp2_with fail
    refine (named_any _ _ (size_le_maxLen hm)).mono ?_
    rintro e w2 ⟨rfl, rfl⟩
    rw [show (ByteArray.mk m.toArray).data.toList = m from rfl, unhide Hn]
    go_wp2_with fail
    go_ret2
    exact ⟨ret_strE (by rw [unhide H1]) (unhide H2).symm, hb1⟩
  have hdl := goodB_le hd
  have hml := namedB_le hn
  have hol := openL_length d
  have hdn : (goodB d && namedB m) = true := by rw [hd, hn]; rfl
  have Hd := hide hd
  have Hn := hide hn
  clear hd hn
  generalize hO : openL d = O at hol
  have HO := hide hO
  clear hO
  have hz : ((ByteArray.mk O.toArray) ++ (ByteArray.mk m.toArray)).size = O.length + m.length := by rw [cat_one, Lib.size_eq]; show (O ++ m).length = _; simp
  by_cases hf : O.length + m.length ≤ 200
  · obtain ⟨h1, h2⟩ := join_fits hdn (by rw [unhide HO]; simpa using hf)
    have H1 := hide h1
    have H2 := hide h2
    clear h1 h2 hdn
    go_enter Tryz.func120, Tryz.ntmps120
    go_wp2_with fail
    refine (good_any _ _).mono ?_
    rintro e w1 ⟨rfl, hb1⟩
    rw [show (ByteArray.mk d.toArray).data.toList = d from rfl, unhide Hd]
    go_wp2_with fail
    refine (named_any _ _ (size_le_maxLen hm)).mono ?_
    rintro e w2 ⟨rfl, rfl⟩
    rw [show (ByteArray.mk m.toArray).data.toList = m from rfl, unhide Hn]
    go_wp2_with fail
    refine (opening_any _ _ (by omega)).mono ?_
    rintro e w3 ⟨rfl, rfl⟩
    rw [unhide HO]
    go_wp2_with fail
    go_ret2
    exact ⟨ret_strE (by rw [unhide H1, unhide HO]; exact cat_one O m) (unhide H2).symm, hb1⟩
  · obtain ⟨h1, h2⟩ := join_long hdn (by rw [unhide HO]; simp; omega)
    have H1 := hide h1
    have H2 := hide h2
    clear h1 h2 hdn
    go_enter Tryz.func120, Tryz.ntmps120
    go_wp2_with fail
    refine (good_any _ _).mono ?_
    rintro e w1 ⟨rfl, hb1⟩
    rw [show (ByteArray.mk d.toArray).data.toList = d from rfl, unhide Hd]
    go_wp2_with fail
    refine (named_any _ _ (size_le_maxLen hm)).mono ?_
    rintro e w2 ⟨rfl, rfl⟩
    rw [show (ByteArray.mk m.toArray).data.toList = m from rfl, unhide Hn]
    go_wp2_with fail
    refine (opening_any _ _ (by omega)).mono ?_
    rintro e w3 ⟨rfl, rfl⟩
    rw [unhide HO]
    go_wp2_with fail
    go_ret2
    exact ⟨ret_strE (by rw [unhide H1]) (unhide H2).symm, hb1⟩

end Go.Proofs.YtoacignhobchbaaGreatDoor

namespace Go.Proofs.YtoacignhobchbaaGreatDoor
open Go.RowKit Go.Shelf

theorem lastIndex_eq (a b : List UInt8) (hb : 47 ∉ b) : Lib.lastIndexByte ⟨(a ++ 47 :: b).toArray⟩ 47 = a.length := by
  have hat : ∀ j, j < (a ++ 47 :: b).length → ((ByteArray.mk (a ++ 47 :: b).toArray).data[j]!) = (a ++ 47 :: b)[j]! := fun j hj => by simp
  rcases Lib.lastIndexByte_spec ⟨(a ++ 47 :: b).toArray⟩ 47 with ⟨_, h⟩ | ⟨i, hi, e, hc, hn⟩
  · exact absurd (by simp) (h a.length (by show a.length < (a ++ 47 :: b).toArray.size; simp))
  · rw [e]
    have hi' : i < (a ++ 47 :: b).length := by
      have : i < (a ++ 47 :: b).toArray.size := hi
      simpa using this
    have h1 : a.length ≤ i := by
      apply Nat.le_of_not_lt
      intro hlt
      exact hn a.length hlt (by show a.length < (a ++ 47 :: b).toArray.size; simp) (by simp)
    by_cases h2 : i = a.length
    · rw [h2]
    · exfalso
      apply hb
      have hlt : i - a.length - 1 < b.length := by simp at hi'; omega
      have hb' : (a ++ 47 :: b)[i]! = b[i - a.length - 1]! := by
        rw [List.getElem!_eq_getElem?_getD, List.getElem!_eq_getElem?_getD, List.getElem?_append_right h1]
        obtain ⟨k, hk⟩ : ∃ k, i - a.length = k + 1 := ⟨i - a.length - 1, by omega⟩
        rw [hk]; simp
      rw [hat i hi', hb'] at hc
      have hm : b[i - a.length - 1]! ∈ b := by
        rw [List.getElem!_eq_getElem?_getD, List.getElem?_eq_getElem hlt]; simp
      have : b[i - a.length - 1]! = 47 := by
        apply UInt8.toNat_inj.1
        show _ = 47
        omega
      rwa [this] at hm

theorem cut_first (a b : List UInt8) : (ByteArray.mk (a ++ 47 :: b).toArray).extract 0 a.length = ⟨a.toArray⟩ := by
  rw [cut_front]; simp
theorem cut_last (a b : List UInt8) : (ByteArray.mk (a ++ 47 :: b).toArray).extract (a.length + 1) (a.length + b.length + 1) = ⟨b.toArray⟩ := by
  have := cut_back (a ++ 47 :: b) (a.length + 1)
  rw [show (a ++ 47 :: b).length = a.length + b.length + 1 from by simp; omega] at this
  rw [this]
  have e : (a ++ 47 :: b).drop (a.length + 1) = b := by rw [← List.drop_drop]; simp
  rw [e]

/-- a path's parent, out of what stands ahead of its last slash -/
def dirL (a : List UInt8) : List UInt8 := if a = [] then [47] else a
theorem dirL_nil : dirL [] = [47] := by rw [dirL, if_pos rfl]
theorem dirL_other {a : List UInt8} (h : a ≠ []) : dirL a = a := by rw [dirL, if_neg h]
theorem ret_three {a b c d : ByteArray} {i j : Int} (h : a = b) (h1 : c = d) (h' : i = j) : Ending.returned (.tuple #[.string a, .string c, .int .i64 i]) = .returned (.tuple #[.string b, .string d, .int .i64 j]) := by rw [h, h1, h']

set_option maxRecDepth 20000 in
set_option maxHeartbeats 1000000 in
theorem split_main (a b : List UInt8) (w : World) (hb : 47 ∉ b) (hg : goodB (a ++ 47 :: b) = true) (hne : a ++ 47 :: b ≠ [47]) :
    Calls Tryz.prog 82 #[.string ⟨(a ++ 47 :: b).toArray⟩] w fun e w' =>
      e = .returned (.tuple #[.string ⟨(dirL a).toArray⟩, .string ⟨b.toArray⟩, .int .i64 0]) ∧ Below w.heap.size w w' := by
  have hl : a.length + b.length + 1 ≤ 200 := by have := goodB_le hg; simp at this; omega
  have hne1 : (a ++ 47 :: b == [47]) = false := by simpa using hne
  have Hg := hide hg
  have Hi := hide (lastIndex_eq a b hb)
  clear hg hne hb
  have hz : (ByteArray.mk (a ++ 47 :: b).toArray).size = a.length + b.length + 1 := by rw [Lib.size_eq]; show (a ++ 47 :: b).length = _; simp; omega
  have Hc1 := hide (cut_first a b)
  have Hc2 := hide (cut_last a b)
  generalize a ++ 47 :: b = l at *
  go_enter Tryz.func82, Tryz.ntmps82
  go_wp2_with fail
  refine (good_any _ _).mono ?_
  rintro e w1 ⟨rfl, hb1⟩
  rw [show (ByteArray.mk l.toArray).data.toList = l from rfl, unhide Hg]
  go_wp2_with fail
  refine (Tryz.strings_LastIndexByte _ _ (by omega) _).mono ?_
  rintro e w2 ⟨rfl, rfl⟩
  rw [unhide Hi]
  go_wp2_with fail
  have cA : ∀ d os, Calls Tryz.prog 69 #[.string ((ByteArray.mk l.toArray).extract 0 a.length)] (Sort.grow (redrawn w2 d) os) fun e w'' => e = .returned (.string ⟨a.toArray⟩) ∧ ∃ p : Regrown, w'' = Sort.grow (redrawn w2 p.d) p.os :=
    fun d os => Calls.regrown_of (by rw [unhide Hc1]; exact clone_any _ _ (by rw [Lib.size_eq]; show a.length ≤ _; omega))
  have cB : ∀ d os, Calls Tryz.prog 69 #[.string ((ByteArray.mk l.toArray).extract (a.length + 1) (a.length + b.length + 1))] (Sort.grow (redrawn w2 d) os) fun e w'' => e = .returned (.string ⟨b.toArray⟩) ∧ ∃ p : Regrown, w'' = Sort.grow (redrawn w2 p.d) p.os :=
    fun d os => Calls.regrown_of (by rw [unhide Hc2]; exact clone_any _ _ (by rw [Lib.size_eq]; show b.length ≤ _; omega))
  have n1 : (a.length : Int) ≤ a.length + b.length + 1 := by omega
  have n2 : (a.length : Int) ≤ a.length + b.length := by omega
  have n3 : IntKind.i64.wrap ((a.length : Int) + 1) = (a.length : Int) + 1 := by rw [IntKind.wrap_i64]; omega
  have n4 : (0 : Int) ≤ (a.length : Int) + 1 := by omega
  refine wp_region_quiet_below (by kernel_rfl) (by kernel_rfl) ?_
  repeat (quiet_step (first | exact cA _ _ | exact cB _ _))
  refine wpQuiet_nil ?_
  intro _ hw'
  obtain ⟨⟨dq, osq⟩, hw''⟩ := hw'
  subst hw''
  clear cA cB
  have hb2 : Below w.heap.size w (Sort.grow (redrawn w2 dq) osq) := below_next hb1 (below_regrown w2 dq osq)
  cases he : a.isEmpty
  · go_wp2
    go_ret3
    exact ⟨ret_three (by rw [dirL_other (by rintro rfl; simp at he)]) rfl rfl, hb2⟩
  · obtain rfl : a = [] := by simpa using he
    go_wp2
    go_ret3
    exact ⟨ret_three (by rw [dirL_nil]) rfl rfl, hb2⟩

set_option maxRecDepth 10000 in
set_option maxHeartbeats 400000 in
theorem split_bad (l : List UInt8) (w : World) (hg : goodB l = false) :
    Calls Tryz.prog 82 #[.string ⟨l.toArray⟩] w fun e w' => e = .returned (.tuple #[.string ⟨#[]⟩, .string ⟨#[]⟩, .int .i64 2]) ∧ Below w.heap.size w w' := by
  have Hg := hide hg
  clear hg
  go_enter Tryz.func82, Tryz.ntmps82
  go_wp2_with fail
  refine (good_any _ _).mono ?_
  rintro e w1 ⟨rfl, hb1⟩
  rw [show (ByteArray.mk l.toArray).data.toList = l from rfl, unhide Hg]
  go_wp2_with fail
  go_ret3
  exact ⟨rfl, hb1⟩

set_option maxRecDepth 10000 in
set_option maxHeartbeats 400000 in
theorem split_root (w : World) :
    Calls Tryz.prog 82 #[.string ⟨#[47]⟩] w fun e w' => e = .returned (.tuple #[.string ⟨#[]⟩, .string ⟨#[]⟩, .int .i64 7]) ∧ Below w.heap.size w w' := by
  go_enter Tryz.func82, Tryz.ntmps82
  go_wp2_with fail
  refine (good_any _ _).mono ?_
  rintro e w1 ⟨rfl, hb1⟩
  rw [show (ByteArray.mk #[47]).data.toList = [47] from rfl, goodB_root]
  go_wp2_with fail
  go_ret3
  exact ⟨rfl, hb1⟩

end Go.Proofs.YtoacignhobchbaaGreatDoor

namespace Go.Proofs.YtoacignhobchbaaGreatDoor
open Go.RowKit

/-- path.Split, at every text -/
theorem split_any (p : List UInt8) (w : World) :
    Calls Tryz.prog 82 #[.string ⟨p.toArray⟩] w fun e w' =>
      e = .returned (.tuple #[.string ⟨(dirOf p).toArray⟩, .string ⟨(stepOf p).toArray⟩, .int .i64 (splE p)]) ∧ Below w.heap.size w w' := by
  cases hg : goodB p with
  | false =>
    rw [dirOf_bad hg, stepOf_bad hg, splE_bad hg]
    exact split_bad p w hg
  | true =>
    by_cases hr : p = [47]
    · subst hr
      rw [dirOf_root, stepOf_root, splE_root]
      exact split_root w
    · obtain ⟨a, b, rfl, hb⟩ := good_cut hg
      rw [dirOf_cut hg hr hb, stepOf_cut hg hr hb, splE_ok hg hr]
      exact split_main a b w hb hg hr

set_option maxRecDepth 10000 in
set_option maxHeartbeats 400000 in
theorem ncmp_any (n : Nd) (p : List UInt8) (w : World) :
    Calls Tryz.prog 112 #[nodeV n, .string ⟨p.toArray⟩] w fun e w' => e = .returned (.int .i64 (Lib.compareBytes n.p p)) ∧ Below w.heap.size w w' := by
  unfold nodeV
  go_enter Tryz.func112, Tryz.ntmps112
  go_wp2_with fail
  refine (Tryz.strings_Compare _ _ _).mono ?_
  rintro e w1 ⟨rfl, rfl⟩
  go_wp2_with fail
  go_ret
  exact ⟨rfl, allocB _ _⟩

def headP (R : List Nd) (p : List UInt8) : Bool := match R with
  | [] => false
  | f :: _ => decide (f.p = p)
theorem nsplit_get (A R : List Nd) (p : List UInt8) (lo : ∀ a ∈ A, bl a.p p = true) (hi : ∀ a ∈ R, bl a.p p = false) (i : Nat) (h : i < A.length + R.length) : ∃ y, (A ++ R)[i]? = some y ∧ bl y.p p = decide (i < A.length) := by
  by_cases h1 : i < A.length
  · refine ⟨A[i], by rw [List.getElem?_append_left h1, List.getElem?_eq_getElem h1], ?_⟩
    rw [lo _ (List.getElem_mem h1)]; simp [h1]
  · have h2 : i - A.length < R.length := by omega
    refine ⟨R[i - A.length], by rw [List.getElem?_append_right (by omega), List.getElem?_eq_getElem h2], ?_⟩
    rw [hi _ (List.getElem_mem h2)]; simp [h1]

set_option maxRecDepth 20000 in
set_option maxHeartbeats 1000000 in
theorem nbsf_any (b off cap : Nat) (A R : List Nd) (p : List UInt8) (w : World) (hcap : A.length + R.length ≤ 100000) (hb : b < w.heap.size) (h : RowAt w b off (cellsL (A ++ R)))
    (lo : ∀ a ∈ A, bl a.p p = true) (hi : ∀ a ∈ R, bl a.p p = false) :
    Calls Tryz.prog 111 #[.slice (some ⟨b, off, none⟩) (A.length + R.length) cap, .string ⟨p.toArray⟩, .func (.func 112) #[] #[]] w fun e w' =>
      e = .returned (.tuple #[.int .i64 A.length, .bool (headP R p)]) ∧ Below w.heap.size w w' := by
  have H := hide h
  have SG := hide (nsplit_get A R p lo hi)
  obtain ⟨fin, hfin⟩ : ∃ x, headP R p = x := ⟨_, rfl⟩
  have HF := hide hfin
  rw [hfin]
  clear h hfin lo hi
  go_enter Tryz.func111, Tryz.ntmps111
  go_wp2_with fail
  go_loopg [9, 10] (A.length + R.length) (fun kx s9 s10 wr => ∃ lo hi : Nat, s9 = .int .i64 lo ∧ s10 = .int .i64 hi ∧ lo ≤ A.length ∧ A.length ≤ hi ∧ hi ≤ A.length + R.length ∧ hi - lo ≤ kx ∧ Hid (Below w.heap.size w wr))
  case atStart => exact ⟨0, A.length + R.length, rfl, rfl, Nat.zero_le _, by omega, Nat.le_refl _, by omega, hide (Below.refl _ _)⟩
  case round =>
    obtain ⟨lo, hi, rfl, rfl, h1, h2, h3, hg, hB⟩ := hrel
    by_cases hlt : lo < hi
    · obtain ⟨y, hy, hyn⟩ := unhide SG ((lo + hi) / 2) (by omega)
      have HY := hide hyn
      have r := (unhide H).kept (unhide hB) hb
      have e0 := r.n0 hy
      have e1 := r.n1 hy
      have e2 := r.n2 hy
      have e3 := r.n3 hy
      have e4 := r.n4 hy
      have e5 := r.n5 hy
      have e6 := r.n6 hy
      have e7 := r.n7 hy
      have e8 := r.n8 hy
      clear hyn hy r
      have hc := cmp_bl y.p p
      rw [unhide HY] at hc
      have CM := fun W => ncmp_any y p W
      generalize Lib.compareBytes y.p p = cv at hc CM
      by_cases hm : (lo + hi) / 2 < A.length
      · have hn : cv < 0 := by simpa [hm] using hc
        clear hc
        go_wp2_with fail
        refine (CM _).mono ?_
        rintro e w1 ⟨rfl, hb1⟩
        have hB2 : Below w.heap.size w w1 := (unhide hB).trans (hb1.mono (unhide hB).size)
        clear CM
        go_wp2_with fail
        go_roundg (hi - ((lo + hi) / 2 + 1))
        case measure => omega
        case rel => exact ⟨(lo + hi) / 2 + 1, hi, by rw [show ((lo : Int) + (hi : Int)) / 2 + 1 = (((lo + hi) / 2 + 1 : Nat) : Int) by omega], rfl, by omega, h2, h3, Nat.le_refl _, hide hB2⟩
      · have hn : ¬ cv < 0 := by simpa [hm] using hc
        clear hc
        go_wp2_with fail
        refine (CM _).mono ?_
        rintro e w1 ⟨rfl, hb1⟩
        have hB2 : Below w.heap.size w w1 := (unhide hB).trans (hb1.mono (unhide hB).size)
        clear CM
        go_wp2_with fail
        go_roundg ((lo + hi) / 2 - lo)
        case measure => omega
        case rel => exact ⟨lo, (lo + hi) / 2, rfl, by rw [show ((lo : Int) + (hi : Int)) / 2 = (((lo + hi) / 2 : Nat) : Int) by omega], h1, by omega, by omega, Nat.le_refl _, hide hB2⟩
    · obtain rfl : lo = A.length := by omega
      obtain rfl : hi = A.length := by omega
      cases R with
      | nil =>
        go_wp2_with fail
        go_ret2
        exact ⟨by rw [← unhide HF]; rfl, unhide hB⟩
      | cons f R =>
        have r := (unhide H).kept (unhide hB) hb
        have hy : (A ++ f :: R)[A.length]? = some f := by simp
        have e0 := r.n0 hy
        have e1 := r.n1 hy
        have e2 := r.n2 hy
        have e3 := r.n3 hy
        have e4 := r.n4 hy
        have e5 := r.n5 hy
        have e6 := r.n6 hy
        have e7 := r.n7 hy
        have e8 := r.n8 hy
        clear hy r
        have hc := cmp_zero f.p p
        have CM := fun W => ncmp_any f p W
        have hf : fin = decide (f.p = p) := (unhide HF).symm
        rw [← hc] at hf
        clear hc HF
        generalize Lib.compareBytes f.p p = cv at hf CM
        subst hf
        simp only [List.length_cons]
        go_wp2_with fail
        refine (CM _).mono ?_
        rintro e w1 ⟨rfl, hb1⟩
        have hB2 : Below w.heap.size w w1 := (unhide hB).trans (hb1.mono (unhide hB).size)
        clear CM
        go_wp2_with fail
        go_ret2
        exact ⟨by rfl, hB2⟩

set_option maxRecDepth 10000 in
set_option maxHeartbeats 400000 in
theorem nbsf_none (a : Option Addr) (cap : Nat) (p : List UInt8) (w : World) :
    Calls Tryz.prog 111 #[.slice a 0 cap, .string ⟨p.toArray⟩, .func (.func 112) #[] #[]] w fun e w' =>
      e = .returned (.tuple #[.int .i64 0, .bool false]) ∧ Below w.heap.size w w' := by
  go_enter Tryz.func111, Tryz.ntmps111
  go_wp2_with fail
  go_loopg [9, 10] 1 (fun _ s9 s10 wr => s9 = .int .i64 0 ∧ s10 = .int .i64 0 ∧ Hid (Below w.heap.size w wr))
  case atStart => exact ⟨rfl, rfl, hide (Below.refl _ _)⟩
  case round =>
    obtain ⟨rfl, rfl, hB⟩ := hrel
    go_wp2_with fail
    go_ret2
    exact ⟨rfl, unhide hB⟩

set_option maxRecDepth 10000 in
set_option maxHeartbeats 400000 in
theorem nfind_split (v : Value) (ns A R : List Nd) (p : List UInt8) (w : World) (hv : SeqV w v ns) (hl : ns.length ≤ 100000) (he : ns = A ++ R) (lo : ∀ a ∈ A, bl a.p p = true) (hi : ∀ a ∈ R, bl a.p p = false) :
    Calls Tryz.prog 81 #[v, .string ⟨p.toArray⟩] w fun e w' => e = .returned (.tuple #[.int .i64 A.length, .bool (headP R p)]) ∧ Below w.heap.size w w' := by
  have C : ∀ W : World, Below w.heap.size w W → Calls Tryz.prog 111 #[v, .string ⟨p.toArray⟩, .func (.func 112) #[] #[]] W fun e w' =>
      e = .returned (.tuple #[.int .i64 A.length, .bool (headP R p)]) ∧ Below W.heap.size W w' := fun W hW => by
    rcases hv with ⟨a, cap, rfl, h0, _⟩ | ⟨b, off, cap, rfl, _, _, hb, _, hr⟩
    · rw [h0] at he
      obtain ⟨rfl, rfl⟩ : A = [] ∧ R = [] := by
        have := congrArg List.length he
        simp at this
        exact ⟨List.eq_nil_of_length_eq_zero (by omega), List.eq_nil_of_length_eq_zero (by omega)⟩
      exact nbsf_none a cap p W
    · subst he
      rw [List.length_append]
      exact nbsf_any b off cap A R p W (by simpa using hl) (Nat.lt_of_lt_of_le hb hW.size) (hr.kept hW hb) lo hi
  have C' := hide C
  obtain ⟨a, c, rfl⟩ := seq_slice hv
  clear C hv hl he lo hi
  generalize headP R p = hd at C' ⊢
  go_enter Tryz.func81, Tryz.ntmps81
  go_wp2_with fail
  refine (unhide C' _ (Below.refl _ _)).mono ?_
  rintro e w1 ⟨rfl, hb1⟩
  go_wp2_with fail
  go_ret2
  exact ⟨rfl, hb1⟩
theorem nfind_there (v : Value) (ns A B : List Nd) (f : Nd) (p : List UInt8) (w : World) (hv : SeqV w v ns) (hl : ns.length ≤ 100000) (T : NThere ns A f B p) :
    Calls Tryz.prog 81 #[v, .string ⟨p.toArray⟩] w fun e w' => e = .returned (.tuple #[.int .i64 A.length, .bool true]) ∧ Below w.heap.size w w' := by
  have := nfind_split v ns A (f :: B) p w hv hl T.eq T.lo (fun a ha => by
    rcases List.mem_cons.1 ha with rfl | h
    · rw [T.nm]; exact bl_irrefl _
    · exact bl_asymm (T.hi a h))
  rwa [show headP (f :: B) p = true from by simp [headP, T.nm]] at this
theorem nfind_gap (v : Value) (ns A B : List Nd) (p : List UInt8) (w : World) (hv : SeqV w v ns) (hl : ns.length ≤ 100000) (G : NGap ns A B p) :
    Calls Tryz.prog 81 #[v, .string ⟨p.toArray⟩] w fun e w' => e = .returned (.tuple #[.int .i64 A.length, .bool false]) ∧ Below w.heap.size w w' := by
  have := nfind_split v ns A B p w hv hl G.eq G.lo (fun a ha => bl_asymm (G.hi a ha))
  rwa [show headP B p = false from by
    cases B with
    | nil => rfl
    | cons f B => have := bl_ne (G.hi f (by simp)); simp [headP, this.symm]] at this
/-- whatever it is -/
theorem nfind_any (v : Value) (ns : List Nd) (p : List UInt8) (w : World) (hv : SeqV w v ns) (hl : ns.length ≤ 100000) (ha : NAsc ns) :
    ∃ i : Nat, i ≤ ns.length ∧ Calls Tryz.prog 81 #[v, .string ⟨p.toArray⟩] w fun e w' => e = .returned (.tuple #[.int .i64 i, .bool (lookN ns p).isSome]) ∧ Below w.heap.size w w' := by
  rcases nwhere p ns ha with ⟨A, n, B, T⟩ | ⟨A, B, G⟩
  · rw [T.look]
    exact ⟨A.length, by rw [T.eq]; simp, nfind_there v ns A B n p w hv hl T⟩
  · rw [G.look]
    exact ⟨A.length, by rw [G.eq]; simp, nfind_gap v ns A B p w hv hl G⟩

/- numbers -/
set_option maxRecDepth 10000 in
set_option maxHeartbeats 400000 in
theorem cnan_any (x : Int) (w : World) : Calls Tryz.prog 136 #[.int .i64 x] w fun e w' => e = .returned (.bool false) ∧ w' = w := by
  go_enter Tryz.func136, Tryz.ntmps136
  go_wp2
  go_ret
  exact ⟨rfl, rfl⟩
set_option maxRecDepth 10000 in
set_option maxHeartbeats 400000 in
theorem snan_any (x : Int) (w : World) : Calls Tryz.prog 108 #[.int .i64 x] w fun e w' => e = .returned (.bool false) ∧ w' = w := by
  go_enter Tryz.func108, Tryz.ntmps108
  go_wp2
  go_ret
  exact ⟨rfl, rfl⟩
set_option maxRecDepth 10000 in
set_option maxHeartbeats 400000 in
theorem cless_any (x y : Int) (w : World) : Calls Tryz.prog 107 #[.int .i64 x, .int .i64 y] w fun e w' => e = .returned (.bool (decide (x < y))) ∧ w' = w := by
  go_enter Tryz.func107, Tryz.ntmps107
  go_wp2_with fail
  refine (cnan_any _ _).mono ?_
  rintro e w1 ⟨rfl, rfl⟩
  go_wp2_with fail
  go_ret
  exact ⟨rfl, rfl⟩

def headI (R : List Int) (s : Int) : Bool := match R with
  | [] => false
  | f :: _ => decide (f = s)
theorem isplit_get (A R : List Int) (s : Int) (lo : ∀ a ∈ A, a < s) (hi : ∀ a ∈ R, ¬ a < s) (i : Nat) (h : i < A.length + R.length) : ∃ y, (A ++ R)[i]? = some y ∧ decide (y < s) = decide (i < A.length) := by
  by_cases h1 : i < A.length
  · refine ⟨A[i], by rw [List.getElem?_append_left h1, List.getElem?_eq_getElem h1], ?_⟩
    simp [h1, lo _ (List.getElem_mem h1)]
  · have h2 : i - A.length < R.length := by omega
    refine ⟨R[i - A.length], by rw [List.getElem?_append_right (by omega), List.getElem?_eq_getElem h2], ?_⟩
    simp only [h1, hi _ (List.getElem_mem h2)]

set_option maxRecDepth 10000 in
set_option maxHeartbeats 1000000 in
theorem ibs_any (b off cap : Nat) (A R : List Int) (s : Int) (w : World) (hcap : A.length + R.length ≤ 281474976710656) (hb : b < w.heap.size) (h : RowAt w b off (cellsL (A ++ R)))
    (lo : ∀ a ∈ A, a < s) (hi : ∀ a ∈ R, ¬ a < s) :
    Calls Tryz.prog 77 #[.slice (some ⟨b, off, none⟩) (A.length + R.length) cap, .int .i64 s] w fun e w' =>
      e = .returned (.tuple #[.int .i64 A.length, .bool (headI R s)]) ∧ w' = w := by
  have H := hide h
  have SG := hide (isplit_get A R s lo hi)
  obtain ⟨fin, hfin⟩ : ∃ x, headI R s = x := ⟨_, rfl⟩
  have HF := hide hfin
  rw [hfin]
  clear h hfin lo hi
  go_enter Tryz.func77, Tryz.ntmps77
  go_wp2_with fail
  go_loopg [7, 8] (A.length + R.length) (fun kx s9 s10 wr => ∃ lo hi : Nat, s9 = .int .i64 lo ∧ s10 = .int .i64 hi ∧ lo ≤ A.length ∧ A.length ≤ hi ∧ hi ≤ A.length + R.length ∧ hi - lo ≤ kx ∧ wr = w)
  case atStart => exact ⟨0, A.length + R.length, rfl, rfl, Nat.zero_le _, by omega, Nat.le_refl _, by omega, rfl⟩
  case round =>
    obtain ⟨lo, hi, rfl, rfl, h1, h2, h3, hg, rfl⟩ := hrel
    by_cases hlt : lo < hi
    · obtain ⟨y, hy, hyn⟩ := unhide SG ((lo + hi) / 2) (by omega)
      have e0 := (unhide H).i0 hy
      clear hy
      have CM := fun W => cless_any y s W
      rw [hyn] at CM
      clear hyn
      by_cases hm : (lo + hi) / 2 < A.length
      · simp only [hm, decide_true] at CM
        go_wp2_with fail
        refine (CM _).mono ?_
        rintro e w1 ⟨rfl, rfl⟩
        clear CM
        go_wp2_with fail
        go_roundg (hi - ((lo + hi) / 2 + 1))
        case measure => omega
        case rel => exact ⟨(lo + hi) / 2 + 1, hi, by rw [show ((lo : Int) + (hi : Int)) / 2 + 1 = (((lo + hi) / 2 + 1 : Nat) : Int) by omega], rfl, by omega, h2, h3, Nat.le_refl _, rfl⟩
      · simp only [hm, decide_false] at CM
        go_wp2_with fail
        refine (CM _).mono ?_
        rintro e w1 ⟨rfl, rfl⟩
        clear CM
        go_wp2_with fail
        go_roundg ((lo + hi) / 2 - lo)
        case measure => omega
        case rel => exact ⟨lo, (lo + hi) / 2, rfl, by rw [show ((lo : Int) + (hi : Int)) / 2 = (((lo + hi) / 2 : Nat) : Int) by omega], h1, by omega, by omega, Nat.le_refl _, rfl⟩
    · obtain rfl : lo = A.length := by omega
      obtain rfl : hi = A.length := by omega
      cases R with
      | nil =>
        go_wp2_with fail
        go_ret2
        exact ⟨by rw [← unhide HF]; rfl, rfl⟩
      | cons f R =>
        have e0 := (unhide H).i0 (show (A ++ f :: R)[A.length]? = some f by simp)
        have hf : decide (f = s) = fin := unhide HF
        clear HF
        simp only [List.length_cons]
        by_cases hfs : f = s
        · subst hfs
          simp only [decide_true] at hf
          subst hf
          go_wp2_with fail
          go_ret2
          exact ⟨rfl, rfl⟩
        · simp only [hfs, decide_false] at hf
          subst hf
          have hq : (f == s) = false := by simpa using hfs
          clear hfs
          go_wp2_with fail
          refine (snan_any _ _).mono ?_
          rintro e w1 ⟨rfl, rfl⟩
          go_wp2_with fail
          go_ret2
          exact ⟨rfl, rfl⟩

set_option maxRecDepth 10000 in
set_option maxHeartbeats 400000 in
theorem ibs_none (a : Option Addr) (cap : Nat) (s : Int) (w : World) :
    Calls Tryz.prog 77 #[.slice a 0 cap, .int .i64 s] w fun e w' => e = .returned (.tuple #[.int .i64 0, .bool false]) ∧ w' = w := by
  go_enter Tryz.func77, Tryz.ntmps77
  go_wp2_with fail
  go_loopg [7, 8] 1 (fun _ s9 s10 wr => s9 = .int .i64 0 ∧ s10 = .int .i64 0 ∧ wr = w)
  case atStart => exact ⟨rfl, rfl, rfl⟩
  case round =>
    obtain ⟨rfl, rfl, rfl⟩ := hrel
    go_wp2_with fail
    go_ret2
    exact ⟨rfl, rfl⟩

theorem ibs_split (v : Value) (ss A R : List Int) (s : Int) (w : World) (hv : SeqV w v ss) (hl : ss.length ≤ 2147483647) (he : ss = A ++ R) (lo : ∀ a ∈ A, a < s) (hi : ∀ a ∈ R, ¬ a < s) :
    Calls Tryz.prog 77 #[v, .int .i64 s] w fun e w' => e = .returned (.tuple #[.int .i64 A.length, .bool (headI R s)]) ∧ w' = w := by
  rcases hv with ⟨a, cap, rfl, h0, _⟩ | ⟨b, off, cap, rfl, _, _, hb, _, hr⟩
  · rw [h0] at he
    obtain ⟨rfl, rfl⟩ : A = [] ∧ R = [] := by
      have := congrArg List.length he
      simp at this
      exact ⟨List.eq_nil_of_length_eq_zero (by omega), List.eq_nil_of_length_eq_zero (by omega)⟩
    exact ibs_none a cap s w
  · subst he
    rw [List.length_append]
    exact ibs_any b off cap A R s w (by simp at hl; omega) hb hr lo hi
theorem ibs_there (v : Value) (ss A B : List Int) (s : Int) (w : World) (hv : SeqV w v ss) (hl : ss.length ≤ 2147483647) (T : SThere ss A B s) :
    Calls Tryz.prog 77 #[v, .int .i64 s] w fun e w' => e = .returned (.tuple #[.int .i64 A.length, .bool true]) ∧ w' = w := by
  have := ibs_split v ss A (s :: B) s w hv hl T.eq T.lo (fun a ha => by
    rcases List.mem_cons.1 ha with rfl | h
    · omega
    · have := T.hi a h; omega)
  rwa [show headI (s :: B) s = true from by simp [headI]] at this
theorem ibs_gap (v : Value) (ss A B : List Int) (s : Int) (w : World) (hv : SeqV w v ss) (hl : ss.length ≤ 2147483647) (G : SGap ss A B s) :
    Calls Tryz.prog 77 #[v, .int .i64 s] w fun e w' => e = .returned (.tuple #[.int .i64 A.length, .bool false]) ∧ w' = w := by
  have := ibs_split v ss A B s w hv hl G.eq G.lo (fun a ha => by have := G.hi a ha; omega)
  rwa [show headI B s = false from by
    cases B with
    | nil => rfl
    | cons f B => exact decide_eq_false (by have := G.hi f (by simp); omega)] at this

set_option maxRecDepth 10000 in
set_option maxHeartbeats 400000 in
theorem topen_any (z : Int) (vn vs : Value) (ss : List Int) (s : Int) (w : World) (hv : SeqV w vs ss) (hs : SAsc ss) :
    Calls Tryz.prog 46 #[.agg #[.int .i64 z, vn, vs], .int .i64 s] w fun e w' => e = .returned (.bool (decide (s ∈ ss))) ∧ Below w.heap.size w w' := by
  have C : ∀ W : World, Below w.heap.size w W → ∃ i : Nat, Calls Tryz.prog 77 #[vs, .int .i64 s] W fun e w' => e = .returned (.tuple #[.int .i64 i, .bool (decide (s ∈ ss))]) ∧ w' = W := fun W hW => by
    rcases swhere s ss hs.1 with ⟨A, B, T⟩ | ⟨A, B, G⟩
    · rw [show decide (s ∈ ss) = true from decide_eq_true T.mem]
      exact ⟨A.length, ibs_there vs ss A B s W (hv.next hW) (sasc_len hs) T⟩
    · rw [show decide (s ∈ ss) = false from decide_eq_false G.not]
      exact ⟨A.length, ibs_gap vs ss A B s W (hv.next hW) (sasc_len hs) G⟩
  have C' := hide C
  obtain ⟨a, c, rfl⟩ := seq_slice hv
  clear C hv hs
  generalize decide (s ∈ ss) = hd at C' ⊢
  generalize ss.length = n at C' ⊢
  go_enter Tryz.func46, Tryz.ntmps46
  go_wp2_with fail
  obtain ⟨i, C2⟩ := unhide C' _ (allocB _ _)
  refine C2.mono ?_
  rintro e w1 ⟨rfl, rfl⟩
  go_wp2_with fail
  go_ret
  exact ⟨rfl, allocB _ _⟩

end Go.Proofs.YtoacignhobchbaaGreatDoor

namespace Go.Proofs.YtoacignhobchbaaGreatDoor
open Go.RowKit

theorem wp_copy_runN (w : World) {o : Oper} {a : Act} {K : Act → World → Prop} {Q : Exit → Act → World → Prop} (d s : Operand) (t t' : TypeId)
    (ho : o.op = .call { callee := .builtin .copy, args := #[d, s], argTypes := #[t, t'] }) (v u : Value) (hd : a.eval d = v) (hs : a.eval s = u) {v' : Value} {w' : World}
    (hr : (Builtin.copy_ #[t, t'] o.type #[v, u]).run Tryz.prog w = .ok v' w') (h : K (a.put o.dst v') w') : o.wp Tryz.prog a w K Q := by
  unfold Oper.wp execOp
  simp only [ho, resolve, invoke, builtin, Sem.run_bind, Sem.run_pure, Result.andThen_ok, List.map_toArray, List.map_cons, List.map_nil, hd, hs, hr]
  exact h
theorem wpList_copy_runN (w : World) {ops : Array Oper} {rest : List Oper} {o : Oper} {a : Act} {Q : Exit → Act → World → Prop} (hgd : o.guard = none) (d s : Operand) (t t' : TypeId)
    (ho : o.op = .call { callee := .builtin .copy, args := #[d, s], argTypes := #[t, t'] }) (v u : Value) (hd : a.eval d = v) (hs : a.eval s = u) {v' : Value} {w' : World}
    (hr : (Builtin.copy_ #[t, t'] o.type #[v, u]).run Tryz.prog w = .ok v' w') (h : wpList Tryz.prog ops Q rest (a.put o.dst v') w') : wpList Tryz.prog ops Q (o :: rest) a w :=
  wpList_plain hgd fun _ hK => wp_copy_runN w d s t t' ho v u hd hs hr (hK _ _ h)
theorem step_copy_runN {ops : Array Oper} {o : Oper} {a : Act} {w : World} {K : Act → World → Prop} {Q : Exit → Act → World → Prop} {E : Prop}
    (hg : o.guard = none) (d x : Operand) (dT sT : TypeId) (hop : o.op = Op.call { callee := Callee.builtin Builtin.copy, args := #[d, x], argTypes := #[dT, sT] })
    (v u : Value) (hd : a.eval d = v) (hx : a.eval x = u) {v' : Value} {w' : World} (hr : (Builtin.copy_ #[dT, sT] o.type #[v, u]).run Tryz.prog w = .ok v' w') (hK : K (a.put o.dst v') w') :
    if Region.wanted o (yielded ops a.tmps) = true then Oper.wp Tryz.prog o a w K Q else E := by
  have hw : Region.wanted o (yielded ops a.tmps) = true := by simp [Region.wanted, hg]
  rw [if_pos hw]
  unfold Oper.wp
  simp [execOp, hop, resolve, invoke, builtin, hd, hx, hr, Result.andThen]
  exact hK
end Go.Proofs.YtoacignhobchbaaGreatDoor

namespace Go.Proofs.YtoacignhobchbaaGreatDoor
open Go.RowKit

theorem cellsN_length (ns : List Nd) : (cellsL ns).length = ns.length * 9 := cellsL_length ns
theorem OwnR.spliceN {W : World} {g cap : Nat} {pre tl : List Nd} (h : OwnR W g cap (pre ++ tl)) (new : List Nd) (hfit : pre.length + new.length ≤ cap) : OwnR (W.setCells g (pre.length * 9) (cellsL new)) g cap (pre ++ new) := h.splice new hfit
theorem OwnR.spareN {W : World} {g cap : Nat} {fs : List Nd} (h : OwnR W g cap fs) (vs : List Value) (o : Nat) (ho : fs.length * 9 ≤ o) (hfit : o + vs.length ≤ cap * 9) : OwnR (W.setCells g o vs) g cap fs := h.spare vs o ho hfit
theorem OwnR.swapN {W : World} {g cap : Nat} {A B : List Nd} {y : Nd} (h : OwnR W g cap (A ++ y :: B)) (x : Nd) : OwnR (W.setCells g (A.length * 9) (ncells x)) g cap (A ++ x :: B) := h.swap1 x
theorem OwnR.someN {W : World} {g cap : Nat} {fs : List Nd} (h : OwnR W g cap fs) {j : Nat} (hj : j < cap * 9) : (W.cell? ⟨g, j, none⟩).isSome = true := h.some hj
theorem OwnR.spliceI {W : World} {g cap : Nat} {pre tl : List Int} (h : OwnR W g cap (pre ++ tl)) (new : List Int) (hfit : pre.length + new.length ≤ cap) : OwnR (W.setCells g pre.length (cellsL new)) g cap (pre ++ new) := by
  have := h.splice new hfit
  rwa [show pre.length * Lay.k Int = pre.length from Nat.mul_one _] at this
theorem OwnR.spareI {W : World} {g cap : Nat} {fs : List Int} (h : OwnR W g cap fs) (vs : List Value) (o : Nat) (ho : fs.length ≤ o) (hfit : o + vs.length ≤ cap) : OwnR (W.setCells g o vs) g cap fs :=
  h.spare vs o (by rw [show fs.length * Lay.k Int = fs.length from Nat.mul_one _]; exact ho) (by rw [show cap * Lay.k Int = cap from Nat.mul_one _]; exact hfit)
theorem OwnR.swapI {W : World} {g cap : Nat} {A B : List Int} {y : Int} (h : OwnR W g cap (A ++ y :: B)) (x : Int) : OwnR (W.setCells g A.length [.int .i64 x]) g cap (A ++ x :: B) := by
  have := h.swap1 x
  rwa [show A.length * Lay.k Int = A.length from Nat.mul_one _] at this
theorem OwnR.someI {W : World} {g cap : Nat} {fs : List Int} (h : OwnR W g cap fs) {j : Nat} (hj : j < cap) : (W.cell? ⟨g, j, none⟩).isSome = true := h.some (by rw [show cap * Lay.k Int = cap from Nat.mul_one _]; exact hj)

end Go.Proofs.YtoacignhobchbaaGreatDoor
