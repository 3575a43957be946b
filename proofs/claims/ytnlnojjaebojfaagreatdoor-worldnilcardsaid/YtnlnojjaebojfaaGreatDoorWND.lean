/-
  What the disk's calls come to, as plain lists: good disks stay good; where a name stands behind a change; what is read. No program is named here.
  How a server lies in memory: one flat value of ten, five of them rows; what stays when other memory turns.
  Boxes of a server: stores into them leave the rows that it holds as they were.
  That aviarykeep.sameLog and aviaryref.SameLog say yes of two logs that are alike: the walks.
  What aviaryref.Read, CopyDisk and SameDisk answer: the walks.
  What a transaction makes of a tree, as plain lists; that good trees stay good. No program is named here.
  A tree under change: what tree.copied and growth's tell and parentChanges do: the walks.
  A tree under change: how a growth lies in memory, which blocks a step may touch; what tell and parentChanges do: the walks.
  Copies of a tree (aviarykeep.own, aviaryref.CopyTree), tree.New and tree.Get: the walks.
  tree.Get and tree.Kids: the walks.
  aviaryref's SameTree and SameEvents, of alike ones: the walks.
  Rows of the call's own, whatever their elements are: their heads, their values.
  What watch.Fire and watch.Drop answer: the walks.
  What aviaryref's Fire, SameNotes, SameWatches (of alike ones) and aviarylaw's watches answer; the law WatchFires: the walks.
  What aviarylaw's watches and aviaryref's SameWatches, SameNotes (of alike ones) answer: the walks.
  What aviaryref.SamePeer and SameServer answer of alike ones: the walks.
  A client's cache as a plain list of entries: what is kept, looked up and told. No program is named here.
  How lists of entries and a client's end lie in memory.
  What aviaryref's CopyClient, SameClient (of alike ones), NewClient and See answer, and ends, starts: the walks.
  Ten decimal digits: their length, their bytes, and that their order is the order of the numbers; no program is named here.
  Requests that are made ready, as plain data: what Prepare answers. No program is named here.
  A deed as plain data, and how it lies in memory.
  The box of a reply: what it holds, and what a reply that is stored whole leaves.
-/
import Derived.Test.YtnlnojjaebojfaaGreatDoorWNC
import Derived.Test.YtnlnojjaebojfaaGreatDoorWNB
import Derived.Test.YtnlnojjaebojfaaGreatDoorRows
import Derived.WalkSpells
import Derived.WalkLawsBesides
import Derived.Deep.RegionHeld3
import Derived.Deep.RegionLaw
import Derived.Test.YtnlnojjaebojfaaGreatDoorWNA
import Derived.WalkKit
import Derived.Lib.ConvBytes
import Derived.Lib.Strings
import Derived.Laws.StructEq
import Derived.Test.YtnlnojjaebojfaaGreatDoorShelf
import Derived.Shelf.RegionOpen
import Derived.TacticsInMore
import Derived.LoopNIn
import Derived.LoopIn
import Derived.Lib.QuietBelow
import Derived.Lib.LastIndexByte
import Derived.Laws.IdiomCopy
import Derived.Lib.AppendZeros
import Derived.Lib.JoinLaws
import Derived.Lib.SliceRun
import Derived.BigQuiet
import Derived.Lib.AppendZerosOnto
import Derived.Lib.Overlaps
import Derived.Laws.Externs
import Derived.Maps.AppendAt
import Derived.Test.YtnlnojjaebojfaaGreatDoorProg
import Derived.Deep.CutRange
import Derived.OwnWalk
import Derived.WalkSmall
import Derived.RegionTactic
import Derived.ChangeAlike
import Derived.Laws.MakeOwn
import Derived.Laws.AppendOwnNone
import Derived.Deep.QuietTactic
import Derived.Lib.ItoaMem
import Derived.Lib.Repeat
namespace Go.Proofs.YtnlnojjaebojfaaGreatDoor
open Go.RowKit
theorem There.set {fs A B : List DF} {f : DF} {name : List UInt8} (T : There fs A f B name) {f' : DF} (hf : f'.n = name) : There (A ++ f' :: B) A f' B name := ⟨rfl, hf, T.lo, T.hi⟩
/- what is read -/
/- what is written -/
/-- a file was written: the disk then, and what it held ahead of it -/
structure Wrote (fs : List DF) (name x : List UInt8) (A : List DF) (f' : DF) (B : List DF) (s0 t0 : List UInt8) : Prop where
  good : GoodD fs
  after : GoodD (A ++ f' :: B)
  at_ : There (A ++ f' :: B) A f' B name
  eq : f' = ⟨name, s0, t0 ++ x⟩
  old : (∃ f, There fs A f B name ∧ f.s = s0 ∧ f.t = t0) ∨ (Gap fs A B name ∧ s0 = [] ∧ t0 = [])
theorem Wrote.len {fs A B : List DF} {name x s0 t0 : List UInt8} {f' : DF} (W : Wrote fs name x A f' B s0 t0) : s0.length + t0.length + x.length ≤ 1048576 := by
  have := fileOk_len (W.after.ok f' (by simp))
  rw [W.eq] at this
  simp at this
  omega
end Go.Proofs.YtnlnojjaebojfaaGreatDoor

namespace Go.Proofs.YtnlnojjaebojfaaGreatDoor
open Go.RowKit

/-- the value holds this server -/
def SvV (w : World) (v : Value) (s : Sv) : Prop := ∃ vd vl vn vs vw, v = .agg #[.bool s.up, vd, .int .i64 s.id, .int .i64 s.ep, vl, .int .i64 s.dn, .int .i64 s.tr.z, vn, vs, vw] ∧ DiskV w vd s.fs ∧ LogV w vl s.ts ∧ SeqV w vn s.tr.ns ∧ SeqV w vs s.tr.ss ∧ SeqV w vw s.ws
theorem SvV.next {w w' : World} {v : Value} {s : Sv} (h : SvV w v s) (hb : Below w.heap.size w w') : SvV w' v s := by
  obtain ⟨vd, vl, vn, vs, vw, rfl, h1, h2, h3, h4, h5⟩ := h
  exact ⟨vd, vl, vn, vs, vw, rfl, h1.next hb, h2.next hb, h3.next hb, h4.next hb, h5.next hb⟩
theorem SvV.alloc {w : World} {v : Value} {s : Sv} (h : SvV w v s) (o : Obj) : SvV (w.alloc o) v s := h.next (allocB _ _)
theorem SvV.drew {w : World} {v : Value} {s : Sv} (h : SvV w v s) : SvV w.drew v s := h.next (Below.refl _ _).drew
/-- its five rows as slices -/
theorem SvV.five {w : World} {v : Value} {s : Sv} (h : SvV w v s) : ∃ ad nd cd al cl an cn ai ci aw cw,
    v = .agg #[.bool s.up, .slice ad nd cd, .int .i64 s.id, .int .i64 s.ep, .slice al s.ts.length cl, .int .i64 s.dn, .int .i64 s.tr.z, .slice an s.tr.ns.length cn, .slice ai s.tr.ss.length ci, .slice aw s.ws.length cw] ∧
    DiskV w (.slice ad nd cd) s.fs ∧ LogV w (.slice al s.ts.length cl) s.ts ∧ SeqV w (.slice an s.tr.ns.length cn) s.tr.ns ∧ SeqV w (.slice ai s.tr.ss.length ci) s.tr.ss ∧ SeqV w (.slice aw s.ws.length cw) s.ws := by
  obtain ⟨vd, vl, vn, vs, vw, rfl, h1, h2, h3, h4, h5⟩ := h
  obtain ⟨ad, nd, cd, rfl⟩ := disk_slice h1
  obtain ⟨al, cl, rfl⟩ := log_slice h2
  obtain ⟨an, cn, rfl⟩ := seq_slice h3
  obtain ⟨ai, ci, rfl⟩ := seq_slice h4
  obtain ⟨aw, cw, rfl⟩ := seq_slice h5
  exact ⟨ad, nd, cd, al, cl, an, cn, ai, ci, aw, cw, rfl, h1, h2, h3, h4, h5⟩
/-- the empty one -/
def svZ : Value := .agg #[.bool false, .slice none 0 0, .int .i64 0, .int .i64 0, .slice none 0 0, .int .i64 0, .int .i64 0, .slice none 0 0, .slice none 0 0, .slice none 0 0]
theorem SvV.zero (w : World) : SvV w svZ sv0 := ⟨_, _, _, _, _, rfl, DiskV.nil w, LogV.nil w, SeqV.nil w, SeqV.nil w, SeqV.nil w⟩
/-- a call hands back a server, and says E -/
def GivesV (w : World) (s : Sv) (E : Int) (e : Ending) (w' : World) : Prop := ∃ v, e = .returned (.tuple #[v, .int .i64 E]) ∧ SvV w' v s ∧ Below w.heap.size w w'
theorem GivesV.later {w W w' : World} {s : Sv} {E : Int} {e : Ending} (h : GivesV W s E e w') (hb : Below w.heap.size w W) : GivesV w s E e w' := by
  obtain ⟨v, he, h1, h2⟩ := h
  exact ⟨v, he, h1, nnext hb h2⟩

end Go.Proofs.YtnlnojjaebojfaaGreatDoor

namespace Go.Proofs.YtnlnojjaebojfaaGreatDoor
open Go.RowKit

/-- block k is a box of cells without a text -/
def Dumb (W : World) (k : Nat) : Prop := ∃ cs t, W.heap[k]? = some (.cells cs t (0, 0)) ∧ ∀ (j : Nat) (s : ByteArray), cs[j]? ≠ some (Value.string s)
theorem Dumb.next {W V : World} {k : Nat} (h : Dumb W k) (hb : Below W.heap.size W V) : Dumb V k := by
  obtain ⟨cs, t, h1, h2⟩ := h
  exact ⟨cs, t, (hb.block k (Array.getElem?_eq_some_iff.1 h1).1).trans h1, h2⟩
theorem Dumb.set {W : World} {k j : Nat} {u : Value} (h : Dumb W k) (hu : ∀ s, u ≠ .string s) : Dumb (W.setCell ⟨k, j, none⟩ u) k := by
  obtain ⟨cs, t, h1, h2⟩ := h
  refine ⟨cs.setIfInBounds j u, t, block_set u h1, fun i s hi => ?_⟩
  rw [Array.getElem?_setIfInBounds] at hi
  split at hi
  · split at hi
    · exact hu s (Option.some.inj hi)
    · cases hi
  · exact h2 i s hi
theorem Dumb.other {W : World} {k i j : Nat} {u : Value} (h : Dumb W k) (hk : k ≠ i) : Dumb (W.setCell ⟨i, j, none⟩ u) k := by
  obtain ⟨cs, t, h1, h2⟩ := h
  exact ⟨cs, t, (Below.heap_setCell W ⟨i, j, none⟩ u k hk).trans h1, h2⟩
/-- the block k holds a server's ten cells -/
def Box10 (W : World) (k : Nat) (up : Bool) (vd : Value) (id ep : Int) (vl : Value) (dn z : Int) (vn vs vw : Value) : Prop :=
  W.heap[k]? = some (.cells #[.bool up, vd, .int .i64 id, .int .i64 ep, vl, .int .i64 dn, .int .i64 z, vn, vs, vw] 49 (0, 0))
theorem Box10.next {W V : World} {k : Nat} {up : Bool} {id ep dn z : Int} {vd vl vn vs vw : Value} (h : Box10 W k up vd id ep vl dn z vn vs vw) (hb : Below W.heap.size W V) : Box10 V k up vd id ep vl dn z vn vs vw := (hb.block k (by unfold Box10 at h; exact (Array.getElem?_eq_some_iff.1 h).1)).trans h
theorem Box10.lt {W : World} {k : Nat} {up : Bool} {id ep dn z : Int} {vd vl vn vs vw : Value} (h : Box10 W k up vd id ep vl dn z vn vs vw) : k < W.heap.size := by unfold Box10 at h; exact (Array.getElem?_eq_some_iff.1 h).1
theorem Box10.new (w : World) (up : Bool) (id ep dn z : Int) (vd vl vn vs vw : Value) : Box10 (w.alloc (.cells #[.bool up, vd, .int .i64 id, .int .i64 ep, vl, .int .i64 dn, .int .i64 z, vn, vs, vw] 49)) w.heap.size up vd id ep vl dn z vn vs vw := heap_alloc_new w _
theorem Box10.other {W : World} {k i j : Nat} {u : Value} {up : Bool} {id ep dn z : Int} {vd vl vn vs vw : Value} (h : Box10 W k up vd id ep vl dn z vn vs vw) (hk : k ≠ i) : Box10 (W.setCell ⟨i, j, none⟩ u) k up vd id ep vl dn z vn vs vw := (Below.heap_setCell W ⟨i, j, none⟩ u k hk).trans h
theorem Box10.cells {W : World} {k : Nat} {up : Bool} {id ep dn z : Int} {vd vl vn vs vw : Value} (h : Box10 W k up vd id ep vl dn z vn vs vw) :
    W.cell? ⟨k, 0, none⟩ = some (.bool up) ∧ W.cell? ⟨k, 1, none⟩ = some vd ∧ W.cell? ⟨k, 2, none⟩ = some (.int .i64 id) ∧ W.cell? ⟨k, 3, none⟩ = some (.int .i64 ep) ∧ W.cell? ⟨k, 4, none⟩ = some vl ∧ W.cell? ⟨k, 5, none⟩ = some (.int .i64 dn) ∧ W.cell? ⟨k, 6, none⟩ = some (.int .i64 z) ∧ W.cell? ⟨k, 7, none⟩ = some vn ∧ W.cell? ⟨k, 8, none⟩ = some vs ∧ W.cell? ⟨k, 9, none⟩ = some vw := by
  unfold Box10 at h
  refine ⟨?_, ?_, ?_, ?_, ?_, ?_, ?_, ?_, ?_, ?_⟩ <;> simp [World.cell?, h]
theorem Box10.froz {W : World} {k : Nat} {up : Bool} {id ep dn z : Int} {vd vl vn vs vw : Value} (h : Box10 W k up vd id ep vl dn z vn vs vw) (j : Nat) : W.frozen? ⟨k, j, none⟩ = false := by
  unfold Box10 at h
  simp [World.frozen?, h]
end Go.Proofs.YtnlnojjaebojfaaGreatDoor

namespace Go.Proofs.YtnlnojjaebojfaaGreatDoor
open Go.RowKit

theorem log_len {w : World} {v : Value} {ts : List WTxn} (hv : LogV w v ts) : (∃ a c, v = .slice a 0 c ∧ ts = []) ∨ ∃ b off c, v = .slice (some ⟨b, off, none⟩) ts.length c ∧ b < w.heap.size ∧ RowAt w b off (cellsT ts) ∧ ts ≠ [] := by
  rcases hv with ⟨a, cap, rfl, rfl, _⟩ | ⟨b, off, cap, rfl, _, _, hb, h0, hr⟩
  · exact .inl ⟨a, cap, rfl, rfl⟩
  · exact .inr ⟨b, off, cap, rfl, hb, hr, h0⟩

set_option maxRecDepth 10000 in
set_option maxHeartbeats 400000 in
theorem rsl_none (a a' : Option Addr) (c c' : Nat) (w : World) :
    Calls Tryz.prog 32 #[.slice a 0 c, .slice a' 0 c'] w fun e w' => e = .returned (.bool true) ∧ Below w.heap.size w w' := by
  go_enter Tryz.func32, Tryz.ntmps32
  go_wp2_with fail
  go_loopg [13] 1 (fun _ s wr => s = .int .i64 0 ∧ wr = w)
  case atStart => exact ⟨rfl, rfl⟩
  case round =>
    obtain ⟨rfl, rfl⟩ := hrel
    go_wp2_with fail
    go_ret
    exact ⟨rfl, Below.refl _ _⟩

set_option maxRecDepth 10000 in
set_option maxHeartbeats 1000000 in
theorem rsl_some (b off c b' off' c' : Nat) (ts : List WTxn) (w : World) (hl : ts.length ≤ 1000000) (hr : RowAt w b off (cellsT ts)) (hr' : RowAt w b' off' (cellsT ts)) :
    Calls Tryz.prog 32 #[.slice (some ⟨b, off, none⟩) ts.length c, .slice (some ⟨b', off', none⟩) ts.length c'] w fun e w' => e = .returned (.bool true) ∧ Below w.heap.size w w' := by
  have HR := hide hr
  have HR' := hide hr'
  clear hr hr'
  go_enter Tryz.func32, Tryz.ntmps32
  go_wp2_with fail
  go_loopg [13] ts.length (fun kx s wr => ∃ (k : Nat) (q : Nat), s = .int .i64 k ∧ k ≤ ts.length ∧ ts.length - k ≤ kx ∧ wr = w.drewN q)
  case atStart => exact ⟨0, 0, rfl, Nat.zero_le _, by omega, rfl⟩
  case round =>
    obtain ⟨k, q, rfl, hk, hkx, rfl⟩ := hrel
    by_cases hlt : k < ts.length
    · obtain ⟨t, ht⟩ : ∃ t, ts[k]? = some t := ⟨_, List.getElem?_eq_getElem hlt⟩
      have r := unhide HR
      have e0 := r.z ht
      have e1 := r.o ht
      have e2 := r.s ht
      have e3 := r.p ht
      have e4 := r.d ht
      have e5 := r.v ht
      have e6 := r.w ht
      have r' := unhide HR'
      have e0' := r'.z ht
      have e1' := r'.o ht
      have e2' := r'.s ht
      have e3' := r'.p ht
      have e4' := r'.d ht
      have e5' := r'.v ht
      have e6' := r'.w ht
      have hlti : (k : Int) < (ts.length : Int) := by omega
      clear r r' ht
      go_wp2_with fail
      go_region
      go_wp2_with fail
      go_roundg (ts.length - (k + 1))
      case measure => omega
      case rel => exact ⟨k + 1, q + 1, rfl, by omega, Nat.le_refl _, rfl⟩
    · have hki : ¬ ((k : Int) < (ts.length : Int)) := by omega
      go_wp2_with fail
      go_ret
      exact ⟨rfl, ⟨rfl, rfl, rfl, Nat.le_refl _, fun _ _ => rfl⟩⟩

theorem rsl_any (v v' : Value) (ts : List WTxn) (w : World) (hl : ts.length ≤ 1000000) (hv : LogV w v ts) (hv' : LogV w v' ts) :
    Calls Tryz.prog 32 #[v, v'] w fun e w' => e = .returned (.bool true) ∧ Below w.heap.size w w' := by
  rcases log_len hv with ⟨a, c, rfl, h0⟩ | ⟨b, off, c, rfl, hb, hr, h0⟩
  · rcases log_len hv' with ⟨a', c', rfl, _⟩ | ⟨b', off', c', rfl, hb', hr', h0'⟩
    · exact rsl_none a a' c c' w
    · exact absurd h0 h0'
  · rcases log_len hv' with ⟨a', c', rfl, h0'⟩ | ⟨b', off', c', rfl, hb', hr', h0'⟩
    · exact absurd h0' h0
    · exact rsl_some b off c b' off' c' ts w hl hr hr'
end Go.Proofs.YtnlnojjaebojfaaGreatDoor

namespace Go.Proofs.YtnlnojjaebojfaaGreatDoor
open Go.RowKit

theorem disk_len {w : World} {v : Value} {fs : List DF} (hv : DiskV w v fs) : (∃ a c, v = .slice a 0 c ∧ fs = []) ∨ ∃ b off c, v = .slice (some ⟨b, off, none⟩) fs.length c ∧ b < w.heap.size ∧ RowAt w b off (cellsF fs) ∧ fs ≠ [] := by
  rcases hv with ⟨a, cap, rfl, rfl, _⟩ | ⟨b, off, cap, rfl, _, _, hb, h0, hr⟩
  · exact .inl ⟨a, cap, rfl, rfl⟩
  · exact .inr ⟨b, off, cap, rfl, hb, hr, h0⟩

set_option maxRecDepth 10000 in
set_option maxHeartbeats 400000 in
theorem rsame_none (a a' : Option Addr) (c c' : Nat) (w : World) :
    Calls Tryz.prog 17 #[.agg #[.slice a 0 c], .agg #[.slice a' 0 c']] w fun e w' => e = .returned (.bool true) ∧ Below w.heap.size w w' := by
  go_enter Tryz.func17, Tryz.ntmps17
  go_wp2_with fail
  go_loopg [16] 1 (fun _ s wr => s = .int .i64 0 ∧ wr = (w.alloc (.cells #[.slice a 0 c] 40)).alloc (.cells #[.slice a' 0 c'] 40))
  case atStart => exact ⟨rfl, rfl⟩
  case round =>
    obtain ⟨rfl, rfl⟩ := hrel
    go_wp2_with fail
    go_ret
    exact ⟨rfl, ((Below.refl _ _).alloc (Nat.le_refl _) _).alloc (by simp) _⟩

set_option maxRecDepth 10000 in
set_option maxHeartbeats 1000000 in
theorem rsame_some (b off c b' off' c' : Nat) (fs : List DF) (w : World) (hl : fs.length ≤ 1000000) (hb : b < w.heap.size) (hb' : b' < w.heap.size) (hr : RowAt w b off (cellsF fs)) (hr' : RowAt w b' off' (cellsF fs)) :
    Calls Tryz.prog 17 #[.agg #[.slice (some ⟨b, off, none⟩) fs.length c], .agg #[.slice (some ⟨b', off', none⟩) fs.length c']] w fun e w' => e = .returned (.bool true) ∧ Below w.heap.size w w' := by
  have HR := hide hr
  have HR' := hide hr'
  have hb1 : b ≠ w.heap.size := by omega
  have hb2 : b' ≠ w.heap.size := by omega
  clear hr hr'
  go_enter Tryz.func17, Tryz.ntmps17
  go_wp2_with fail
  obtain ⟨W0, hW0⟩ : ∃ W, W = (w.alloc (.cells #[.slice (some ⟨b, off, none⟩) fs.length c] 40)).alloc (.cells #[.slice (some ⟨b', off', none⟩) fs.length c'] 40) := ⟨_, rfl⟩
  have ca : W0.cell? ⟨w.heap.size, 0, none⟩ = some (.slice (some ⟨b, off, none⟩) fs.length c) := by rw [hW0]; simp
  have cb : W0.cell? ⟨w.heap.size + 1, 0, none⟩ = some (.slice (some ⟨b', off', none⟩) fs.length c') := by rw [hW0]; simp
  have hB0 : Below w.heap.size w W0 := by rw [hW0]; exact ((Below.refl _ _).alloc (Nat.le_refl _) _).alloc (by simp) _
  rw [← hW0]
  have HB := hide hB0
  clear hW0 hB0
  go_loopg [16] fs.length (fun kx s wr => ∃ (k : Nat) (q : Nat), s = .int .i64 k ∧ k ≤ fs.length ∧ fs.length - k ≤ kx ∧ wr = W0.drewN q)
  case atStart => exact ⟨0, 0, rfl, Nat.zero_le _, by omega, rfl⟩
  case round =>
    obtain ⟨k, q, rfl, hk, hkx, rfl⟩ := hrel
    by_cases hlt : k < fs.length
    · obtain ⟨f, hf⟩ : ∃ f, fs[k]? = some f := ⟨_, List.getElem?_eq_getElem hlt⟩
      have r := (unhide HR).kept (unhide HB) hb
      have e0 := r.c0 hf
      have e1 := r.c1 hf
      have e2 := r.c2 hf
      have r' := (unhide HR').kept (unhide HB) hb'
      have e0' := r'.c0 hf
      have e1' := r'.c1 hf
      have e2' := r'.c2 hf
      have hlti : (k : Int) < (fs.length : Int) := by omega
      clear r r' hf
      go_wp2_with fail
      go_region
      go_wp2_with fail
      go_roundg (fs.length - (k + 1))
      case measure => omega
      case rel => exact ⟨k + 1, q + 1, rfl, by omega, Nat.le_refl _, rfl⟩
    · have hki : ¬ ((k : Int) < (fs.length : Int)) := by omega
      go_wp2_with fail
      go_ret
      exact ⟨rfl, (unhide HB).trans ⟨rfl, rfl, rfl, Nat.le_refl _, fun _ _ => rfl⟩⟩

theorem rsame_any (v v' : Value) (fs : List DF) (w : World) (hl : fs.length ≤ 1000000) (hv : DiskV w v fs) (hv' : DiskV w v' fs) :
    Calls Tryz.prog 17 #[.agg #[v], .agg #[v']] w fun e w' => e = .returned (.bool true) ∧ Below w.heap.size w w' := by
  rcases disk_len hv with ⟨a, c, rfl, h0⟩ | ⟨b, off, c, rfl, hb, hr, h0⟩
  · rcases disk_len hv' with ⟨a', c', rfl, _⟩ | ⟨b', off', c', rfl, hb', hr', h0'⟩
    · exact rsame_none a a' c c' w
    · exact absurd h0 h0'
  · rcases disk_len hv' with ⟨a', c', rfl, h0'⟩ | ⟨b', off', c', rfl, hb', hr', h0'⟩
    · exact absurd h0' h0
    · exact rsame_some b off c b' off' c' fs w hl hb hb' hr hr'

end Go.Proofs.YtnlnojjaebojfaaGreatDoor

namespace Go.Proofs.YtnlnojjaebojfaaGreatDoor
open Go.RowKit

theorem GoodN.mono {z z' : Int} {ns : List Nd} {ss : List Int} (g : GoodN z ns ss) (h : z ≤ z') : GoodN z' ns ss :=
  ⟨g.few, g.root, g.asc, fun n hn => by
    have k := g.ok n hn
    have := k.mz
    have := k.qz
    exact ⟨k.data, k.path, k.up, k.c0, k.cm, k.cq, by omega, by omega, k.v0, k.v1, k.k0, k.kids, k.own⟩⟩
/- a change that leaves all paths -/
/- a node goes -/
/- a node comes -/
/- a node is set -/
end Go.Proofs.YtnlnojjaebojfaaGreatDoor

namespace Go.Proofs.YtnlnojjaebojfaaGreatDoor
open Go.RowKit
def nzero : Nd := ⟨[], [], 0, 0, 0, 0, 0, 0, 0⟩

end Go.Proofs.YtnlnojjaebojfaaGreatDoor

namespace Go.Proofs.YtnlnojjaebojfaaGreatDoor
open Go.RowKit

/-- block b is a growth -/
structure Grow (W : World) (F : Nat → Prop) (b : Nat) (z : Int) (vn vs ve : Value) (ns : List Nd) (ss : List Int) (es : List Ev) : Prop where
  blk : W.heap[b]? = some (.cells #[.int .i64 z, vn, vs, ve] 207 (0, 0))
  fb : F b
  n : OwnS W 0 vn ns
  s : OwnS W 0 vs ss
  e : OwnS W 0 ve es
  fn : ∀ k, vn.ownBlock = some k → F k ∧ k ≠ b
  fs : ∀ k, vs.ownBlock = some k → F k ∧ k ≠ b
  fe : ∀ k, ve.ownBlock = some k → F k ∧ k ≠ b
  an : ∀ k, vn.ownBlock = some k → vs.ownBlock ≠ some k ∧ ve.ownBlock ≠ some k
  asn : ∀ k, vs.ownBlock = some k → ve.ownBlock ≠ some k
theorem Grow.lt {W : World} {F : Nat → Prop} {b : Nat} {z : Int} {vn vs ve : Value} {ns : List Nd} {ss : List Int} {es : List Ev} (h : Grow W F b z vn vs ve ns ss es) : b < W.heap.size := (Array.getElem?_eq_some_iff.1 h.blk).1
theorem Grow.next {W V : World} {F : Nat → Prop} {b : Nat} {z : Int} {vn vs ve : Value} {ns : List Nd} {ss : List Int} {es : List Ev} (h : Grow W F b z vn vs ve ns ss es) (hb : Below W.heap.size W V) : Grow V F b z vn vs ve ns ss es :=
  ⟨(hb.block _ h.lt).trans h.blk, h.fb, h.n.next hb, h.s.next hb, h.e.next hb, h.fn, h.fs, h.fe, h.an, h.asn⟩
theorem Grow.drew {W : World} {F : Nat → Prop} {b : Nat} {z : Int} {vn vs ve : Value} {ns : List Nd} {ss : List Int} {es : List Ev} (h : Grow W F b z vn vs ve ns ss es) : Grow W.drew F b z vn vs ve ns ss es := h.next (Below.refl _ _).drew
theorem Grow.c0 {W : World} {F : Nat → Prop} {b : Nat} {z : Int} {vn vs ve : Value} {ns : List Nd} {ss : List Int} {es : List Ev} (h : Grow W F b z vn vs ve ns ss es) : W.cell? ⟨b, 0, none⟩ = some (.int .i64 z) := by simp [World.cell?, h.blk]
theorem Grow.c1 {W : World} {F : Nat → Prop} {b : Nat} {z : Int} {vn vs ve : Value} {ns : List Nd} {ss : List Int} {es : List Ev} (h : Grow W F b z vn vs ve ns ss es) : W.cell? ⟨b, 1, none⟩ = some vn := by simp [World.cell?, h.blk]
theorem Grow.c2 {W : World} {F : Nat → Prop} {b : Nat} {z : Int} {vn vs ve : Value} {ns : List Nd} {ss : List Int} {es : List Ev} (h : Grow W F b z vn vs ve ns ss es) : W.cell? ⟨b, 2, none⟩ = some vs := by simp [World.cell?, h.blk]
theorem Grow.c3 {W : World} {F : Nat → Prop} {b : Nat} {z : Int} {vn vs ve : Value} {ns : List Nd} {ss : List Int} {es : List Ev} (h : Grow W F b z vn vs ve ns ss es) : W.cell? ⟨b, 3, none⟩ = some ve := by simp [World.cell?, h.blk]
theorem Grow.fz {W : World} {F : Nat → Prop} {b : Nat} {z : Int} {vn vs ve : Value} {ns : List Nd} {ss : List Int} {es : List Ev} (h : Grow W F b z vn vs ve ns ss es) (j : Nat) : W.frozen? ⟨b, j, none⟩ = false := by simp [World.frozen?, h.blk]
/-- new nodes -/
theorem Grow.nd {W V : World} {F : Nat → Prop} {b : Nat} {z : Int} {vn vs ve vn' : Value} {ns ns' : List Nd} {ss : List Int} {es : List Ev} (h : Grow W F b z vn vs ve ns ss es) (hF : ∀ k, W.heap.size ≤ k → F k) (hg : W.grownBy V vn.ownBlock) (hn' : OwnS V 0 vn' ns') (hl : vn'.ownBlock = vn.ownBlock ∨ ∃ k, W.heap.size ≤ k ∧ vn'.ownBlock = some k) :
    Grow (V.setCell ⟨b, 1, none⟩ vn') F b z vn' vs ve ns' ss es := by
  have hbn : some b ≠ vn.ownBlock := fun e => (h.fn b e.symm).2 rfl
  have hb := h.lt
  have hne : ∀ k, vn'.ownBlock = some k → F k ∧ k ≠ b ∧ vs.ownBlock ≠ some k ∧ ve.ownBlock ≠ some k := by
    intro k hk
    rcases hl with e | ⟨j, hj, e⟩
    · rw [e] at hk
      exact ⟨(h.fn k hk).1, (h.fn k hk).2, (h.an k hk).1, (h.an k hk).2⟩
    · rw [e] at hk
      cases hk
      exact ⟨hF _ hj, by omega, fun hs => by have := h.s.low _ hs; omega, fun hs => by have := h.e.low _ hs; omega⟩
  refine ⟨?_, h.fb, ?_, ?_, ?_, fun k hk => ⟨(hne k hk).1, (hne k hk).2.1⟩, h.fs, h.fe, fun k hk => (hne k hk).2.2, h.asn⟩
  · rw [block_set vn' ((hg.block b hb hbn).trans h.blk)]
    rfl
  · exact hn'.other (fun e => (hne b e).2.1 rfl) _
  · exact (h.s.grown hg (fun k hk e => (h.an k e.symm).1 hk)).other (fun e => (h.fs b e).2 rfl) _
  · exact (h.e.grown hg (fun k hk e => (h.an k e.symm).2 hk)).other (fun e => (h.fe b e).2 rfl) _
/- tell -/
end Go.Proofs.YtnlnojjaebojfaaGreatDoor

namespace Go.Proofs.YtnlnojjaebojfaaGreatDoor
open Go.RowKit

/- append(nil, l...) -/
/-- a tree's box at q, a box for the answer behind it -/
structure OB (w W : World) (z : Int) (vn vs : Value) : Prop where
  t : W.heap[w.heap.size]? = some (.cells #[.int .i64 z, vn, vs] 46 (0, 0))
  r : W.heap[w.heap.size + 1]? = some (.cells #[.int .i64 0, .slice none 0 0, .slice none 0 0] 46 (0, 0))
  b : Below w.heap.size w W
theorem OB.new (w : World) (z : Int) (vn vs : Value) : OB w ((w.alloc (.cells #[.int .i64 z, vn, vs] 46)).alloc (.cells #[.int .i64 0, .slice none 0 0, .slice none 0 0] 46)) z vn vs := by
  refine ⟨?_, ?_, nnext (allocB _ _) (allocB _ _)⟩
  · rw [(allocB _ _).block _ (by simp)]
    exact heap_alloc_new w _
  · have h := heap_alloc_new (w.alloc (.cells #[.int .i64 z, vn, vs] 46)) (.cells #[.int .i64 0, .slice none 0 0, .slice none 0 0] 46)
    rw [show (w.alloc (.cells #[.int .i64 z, vn, vs] 46)).heap.size = w.heap.size + 1 by simp] at h
    exact h
theorem OB.lt {w W : World} {z : Int} {vn vs : Value} (h : OB w W z vn vs) : w.heap.size + 1 < W.heap.size := (Array.getElem?_eq_some_iff.1 h.r).1
theorem OB.next {w W V : World} {z : Int} {vn vs : Value} (h : OB w W z vn vs) (hb : Below W.heap.size W V) : OB w V z vn vs := by
  have := h.lt
  exact ⟨(hb.block _ (by omega)).trans h.t, (hb.block _ (by omega)).trans h.r, nnext h.b hb⟩
theorem OB.drew {w W : World} {z : Int} {vn vs : Value} (h : OB w W z vn vs) : OB w W.drew z vn vs := h.next (Below.refl _ _).drew
theorem grown_below {W V : World} (h : W.grownBy V none) : Below W.heap.size W V := ⟨h.os, h.tape, h.output, h.size, fun k hk => h.block k hk (by simp)⟩
theorem OB.grown {w W V : World} {z : Int} {vn vs : Value} (h : OB w W z vn vs) (hg : W.grownBy V none) : OB w V z vn vs := h.next (grown_below hg)
theorem OB.cells {w W : World} {z : Int} {vn vs : Value} (h : OB w W z vn vs) : W.cell? ⟨w.heap.size, 0, none⟩ = some (.int .i64 z) ∧ W.cell? ⟨w.heap.size, 1, none⟩ = some vn ∧ W.cell? ⟨w.heap.size, 2, none⟩ = some vs ∧ W.frozen? ⟨w.heap.size, 1, none⟩ = false ∧ W.frozen? ⟨w.heap.size, 2, none⟩ = false := by
  have h1 := h.t
  refine ⟨?_, ?_, ?_, ?_, ?_⟩ <;> simp [World.cell?, World.frozen?, h1]
/-- copied, but for the answer -/
def OwnQ (w : World) (z : Int) (ns : List Nd) (ss : List Int) (wx : World) : Prop :=
  ∃ an cn ai ci, OB w wx z (.slice an ns.length cn) (.slice ai ss.length ci) ∧ OwnS wx (w.heap.size + 2) (.slice an ns.length cn) ns ∧ OwnS wx (w.heap.size + 2) (.slice ai ss.length ci) ss
theorem OwnQ.next {w W V : World} {z : Int} {ns : List Nd} {ss : List Int} (h : OwnQ w z ns ss W) (hb : Below W.heap.size W V) : OwnQ w z ns ss V := by
  obtain ⟨an, cn, ai, ci, h1, h2, h3⟩ := h
  exact ⟨an, cn, ai, ci, h1.next hb, h2.next hb, h3.next hb⟩
/- New, Get -/
end Go.Proofs.YtnlnojjaebojfaaGreatDoor

namespace Go.Proofs.YtnlnojjaebojfaaGreatDoor
open Go.RowKit

/-- a tree's box, and a node's for the answer -/
structure GB (w W : World) (z : Int) (vn vs : Value) : Prop where
  t : W.heap[w.heap.size]? = some (.cells #[.int .i64 z, vn, vs] 46 (0, 0))
  r : W.heap[w.heap.size + 1]? = some (.cells #[.string ⟨#[]⟩, .string ⟨#[]⟩, .int .i64 0, .int .i64 0, .int .i64 0, .int .i64 0, .int .i64 0, .int .i64 0, .int .i64 0] 81 (0, 0))
  b : Below w.heap.size w W
theorem GB.new (w : World) (z : Int) (vn vs : Value) : GB w ((w.alloc (.cells #[.int .i64 z, vn, vs] 46)).alloc (.cells #[.string ⟨#[]⟩, .string ⟨#[]⟩, .int .i64 0, .int .i64 0, .int .i64 0, .int .i64 0, .int .i64 0, .int .i64 0, .int .i64 0] 81)) z vn vs := by
  refine ⟨?_, ?_, nnext (allocB _ _) (allocB _ _)⟩
  · rw [(allocB _ _).block _ (by simp)]
    exact heap_alloc_new w _
  · have h := heap_alloc_new (w.alloc (.cells #[.int .i64 z, vn, vs] 46)) (.cells #[.string ⟨#[]⟩, .string ⟨#[]⟩, .int .i64 0, .int .i64 0, .int .i64 0, .int .i64 0, .int .i64 0, .int .i64 0, .int .i64 0] 81)
    rw [show (w.alloc (.cells #[.int .i64 z, vn, vs] 46)).heap.size = w.heap.size + 1 by simp] at h
    exact h
theorem GB.lt {w W : World} {z : Int} {vn vs : Value} (h : GB w W z vn vs) : w.heap.size + 1 < W.heap.size := (Array.getElem?_eq_some_iff.1 h.r).1
theorem GB.next {w W V : World} {z : Int} {vn vs : Value} (h : GB w W z vn vs) (hb : Below W.heap.size W V) : GB w V z vn vs := by
  have := h.lt
  exact ⟨(hb.block _ (by omega)).trans h.t, (hb.block _ (by omega)).trans h.r, nnext h.b hb⟩
theorem GB.c1 {w W : World} {z : Int} {vn vs : Value} (h : GB w W z vn vs) : W.cell? ⟨w.heap.size, 1, none⟩ = some vn := by simp [World.cell?, h.t]
theorem GB.one {w W : World} {z : Int} {vn vs : Value} (h : GB w W z vn vs) : OneR W (w.heap.size + 1) nzero := h.r

/- Kids -/
end Go.Proofs.YtnlnojjaebojfaaGreatDoor

namespace Go.Proofs.YtnlnojjaebojfaaGreatDoor
open Go.RowKit

/-- two boxes of trees -/
structure TT (w W : World) (z : Int) (vn vs un us : Value) : Prop where
  a : W.heap[w.heap.size]? = some (.cells #[.int .i64 z, vn, vs] 46 (0, 0))
  b : W.heap[w.heap.size + 1]? = some (.cells #[.int .i64 z, un, us] 46 (0, 0))
  bl : Below w.heap.size w W
theorem TT.new (w : World) (z : Int) (vn vs un us : Value) : TT w ((w.alloc (.cells #[.int .i64 z, vn, vs] 46)).alloc (.cells #[.int .i64 z, un, us] 46)) z vn vs un us := by
  refine ⟨?_, ?_, nnext (allocB _ _) (allocB _ _)⟩
  · rw [(allocB _ _).block _ (by simp)]
    exact heap_alloc_new w _
  · have h := heap_alloc_new (w.alloc (.cells #[.int .i64 z, vn, vs] 46)) (.cells #[.int .i64 z, un, us] 46)
    rw [show (w.alloc (.cells #[.int .i64 z, vn, vs] 46)).heap.size = w.heap.size + 1 by simp] at h
    exact h
theorem TT.next {w W V : World} {z : Int} {vn vs un us : Value} (h : TT w W z vn vs un us) (hb : Below W.heap.size W V) : TT w V z vn vs un us :=
  ⟨(hb.block _ (Array.getElem?_eq_some_iff.1 h.a).1).trans h.a, (hb.block _ (Array.getElem?_eq_some_iff.1 h.b).1).trans h.b, nnext h.bl hb⟩
theorem TT.six {w W : World} {z : Int} {vn vs un us : Value} (h : TT w W z vn vs un us) : W.cell? ⟨w.heap.size, 0, none⟩ = some (.int .i64 z) ∧ W.cell? ⟨w.heap.size, 1, none⟩ = some vn ∧ W.cell? ⟨w.heap.size, 2, none⟩ = some vs ∧ W.cell? ⟨w.heap.size + 1, 0, none⟩ = some (.int .i64 z) ∧ W.cell? ⟨w.heap.size + 1, 1, none⟩ = some un ∧ W.cell? ⟨w.heap.size + 1, 2, none⟩ = some us := by
  have h1 := h.a
  have h2 := h.b
  refine ⟨?_, ?_, ?_, ?_, ?_, ?_⟩ <;> simp [World.cell?, h1, h2]

set_option maxRecDepth 20000 in
set_option maxHeartbeats 4000000 in
theorem rsameT_any (t : Tr) (vn vs un us : Value) (w : World) (hn : SeqV w vn t.ns) (hs : SeqV w vs t.ss) (gn : SeqV w un t.ns) (gs : SeqV w us t.ss) (hl : t.ns.length ≤ 140737488355328) (hls : t.ss.length ≤ 140737488355328) :
    Calls Tryz.prog 19 #[.agg #[.int .i64 t.z, vn, vs], .agg #[.int .i64 t.z, un, us]] w fun e w' => e = .returned (.bool true) ∧ Below w.heap.size w w' := by
  have K : ∀ {α : Type} [Lay α] (v : Value) (xs : List α), SeqV w v xs → ∀ W, Below w.heap.size w W → ∀ (i : Nat) (x : α), xs[i]? = some x → ∃ b off c, v = .slice (some ⟨b, off, none⟩) xs.length c ∧ b < w.heap.size ∧ RowAt W b off (cellsL xs) := by
    intro α _ v xs hv W hW i x hx
    obtain ⟨b, off, c, e, hb, hr, _, _⟩ := seq_row hv (by intro h0; rw [h0] at hx; simp at hx)
    exact ⟨b, off, c, e, hb, hr.kept hW hb⟩
  have K1 := hide (K vn t.ns hn)
  have K2 := hide (K un t.ns gn)
  have K3 := hide (K vs t.ss hs)
  have K4 := hide (K us t.ss gs)
  have T0 := hide (TT.new w t.z vn vs un us)
  obtain ⟨na, nc, rfl⟩ := seq_slice hn
  obtain ⟨sa, sc, rfl⟩ := seq_slice hs
  obtain ⟨ma, mc, rfl⟩ := seq_slice gn
  obtain ⟨ra, rc, rfl⟩ := seq_slice gs
  clear hn hs gn gs K
  go_enter Tryz.func19, Tryz.ntmps19
  go_wp2_with fail
  go_loopg [33] t.ns.length (fun kx s33 wr => ∃ k : Nat, s33 = .int .i64 k ∧ k ≤ t.ns.length ∧ t.ns.length - k ≤ kx ∧ Hid (TT w wr t.z (.slice na t.ns.length nc) (.slice sa t.ss.length sc) (.slice ma t.ns.length mc) (.slice ra t.ss.length rc)))
  case atStart => exact ⟨0, rfl, Nat.zero_le _, Nat.le_refl _, T0⟩
  case round =>
    obtain ⟨k, rfl, hk, hg, hT⟩ := hrel
    obtain ⟨c0, c1, c2, c3, c4, c5⟩ := (unhide hT).six
    have hsz := (unhide hT).bl.size
    by_cases hlt : k < t.ns.length
    · obtain ⟨x, hx⟩ : ∃ x, t.ns[k]? = some x := ⟨_, List.getElem?_eq_getElem hlt⟩
      obtain ⟨b1, o1, cc1, he, hb1, q1⟩ := unhide K1 wr (unhide hT).bl k x hx
      simp only [Value.slice.injEq] at he
      obtain ⟨rfl, _, rfl⟩ := he
      obtain ⟨b2, o2, cc2, he, hb2, q2⟩ := unhide K2 wr (unhide hT).bl k x hx
      simp only [Value.slice.injEq] at he
      obtain ⟨rfl, _, rfl⟩ := he
      have d0 := q1.n0 hx
      have d1 := q1.n1 hx
      have d2 := q1.n2 hx
      have d3 := q1.n3 hx
      have d4 := q1.n4 hx
      have d5 := q1.n5 hx
      have d6 := q1.n6 hx
      have d7 := q1.n7 hx
      have d8 := q1.n8 hx
      have r0 := q2.n0 hx
      have r1 := q2.n1 hx
      have r2 := q2.n2 hx
      have r3 := q2.n3 hx
      have r4 := q2.n4 hx
      have r5 := q2.n5 hx
      have r6 := q2.n6 hx
      have r7 := q2.n7 hx
      have r8 := q2.n8 hx
      clear q1 q2 hx
      go_wp2_with fail
      go_region
      go_wp2_with fail
      go_roundg (t.ns.length - (k + 1))
      case measure => omega
      case rel => exact ⟨k + 1, rfl, by omega, Nat.le_refl _, hide ((unhide hT).next (Below.refl _ _).drew)⟩
    · obtain rfl : k = t.ns.length := by omega
      go_wp2_with fail
      go_loopg [51] t.ss.length (fun kx s51 wr => ∃ k : Nat, s51 = .int .i64 k ∧ k ≤ t.ss.length ∧ t.ss.length - k ≤ kx ∧ Hid (TT w wr t.z (.slice na t.ns.length nc) (.slice sa t.ss.length sc) (.slice ma t.ns.length mc) (.slice ra t.ss.length rc)))
      case atStart => exact ⟨0, rfl, Nat.zero_le _, Nat.le_refl _, hT⟩
      case round =>
        obtain ⟨k, rfl, hk, hg, hT⟩ := hrel
        obtain ⟨c0, c1, c2, c3, c4, c5⟩ := (unhide hT).six
        by_cases hlt : k < t.ss.length
        · obtain ⟨x, hx⟩ : ∃ x, t.ss[k]? = some x := ⟨_, List.getElem?_eq_getElem hlt⟩
          obtain ⟨b1, o1, cc1, he, hb1, q1⟩ := unhide K3 wr (unhide hT).bl k x hx
          simp only [Value.slice.injEq] at he
          obtain ⟨rfl, _, rfl⟩ := he
          obtain ⟨b2, o2, cc2, he, hb2, q2⟩ := unhide K4 wr (unhide hT).bl k x hx
          simp only [Value.slice.injEq] at he
          obtain ⟨rfl, _, rfl⟩ := he
          have d0 := q1.i0 hx
          have r0 := q2.i0 hx
          clear q1 q2 hx
          go_wp2_with fail
          go_region
          go_wp2_with fail
          go_roundg (t.ss.length - (k + 1))
          case measure => omega
          case rel => exact ⟨k + 1, rfl, by omega, Nat.le_refl _, hide ((unhide hT).next (Below.refl _ _).drew)⟩
        · obtain rfl : k = t.ss.length := by omega
          go_wp2_with fail
          go_ret
          exact ⟨rfl, (unhide hT).bl⟩

end Go.Proofs.YtnlnojjaebojfaaGreatDoor

namespace Go.Proofs.YtnlnojjaebojfaaGreatDoor
open Go.RowKit
theorem OwnR.head {α : Type} [Lay α] {W : World} {g cap : Nat} {A B : List α} (h : OwnR W g cap (A ++ B)) : OwnR W g cap A := by
  obtain ⟨rest, h1, h2, h4, h3⟩ := h
  refine ⟨cellsL B ++ rest, by rw [h1, cellsL_append, List.append_assoc], ?_, ?_, h3⟩
  · rw [List.length_append, cellsL_length B]
    rw [List.length_append, Nat.add_mul] at h2
    omega
  · rw [List.length_append] at h4; omega
end Go.Proofs.YtnlnojjaebojfaaGreatDoor

namespace Go.Proofs.YtnlnojjaebojfaaGreatDoor
open Go.RowKit
theorem OneR.grown {W V : World} {B q : Nat} {e : Ev} (h : OneR W B e) (hg : W.grownBy V (some q)) (hne : B ≠ q) : OneR V B e :=
  (hg.block B (Array.getElem?_eq_some_iff.1 h).1 (by simp [hne])).trans h
end Go.Proofs.YtnlnojjaebojfaaGreatDoor

namespace Go.Proofs.YtnlnojjaebojfaaGreatDoor
open Go.RowKit

theorem RowAt.grown {W V : World} {b off : Nat} {cs : List Value} {r : Option Nat} (h : RowAt W b off cs) (hg : W.grownBy V r) (hr : some b ≠ r) : RowAt V b off cs := fun j v hj => hg.cell (h j v hj) hr
theorem SeqV.grown {α : Type} [Lay α] {W V : World} {v : Value} {xs : List α} {r : Option Nat} (h : SeqV W v xs) (hg : W.grownBy V r) (hr : ∀ k, v.ownBlock = some k → some k ≠ r) : SeqV V v xs := by
  rcases h with h | ⟨b, off, cap, rfl, h1, h2, h3, h0, h4⟩
  · exact .inl h
  · exact .inr ⟨b, off, cap, rfl, h1, h2, Nat.lt_of_lt_of_le h3 hg.size, h0, h4.grown hg (hr b rfl)⟩
/-- the document's Fire within one event -/
structure FI (w wq : World) (m be : Nat) (e : Ev) (lv : Value) (L : List Wa) (nv : Value) (N : List Nt) (fv : Value) (F : List Wa) : Prop where
  n : OwnS wq w.heap.size nv N
  f : OwnS wq m fv F
  nf : ∀ k, nv.ownBlock = some k → fv.ownBlock ≠ some k ∧ k ≠ be
  bm : be < m
  rd : ∀ (i : Nat) (x : Wa), L[i]? = some x → ∃ b off cap, lv = .slice (some ⟨b, off, none⟩) L.length cap ∧ b < m ∧ nv.ownBlock ≠ some b ∧ RowAt wq b off (cellsL L)
  e : OneR wq be e
  b : Below w.heap.size w wq
  wm : w.heap.size ≤ m
  mz : m ≤ wq.heap.size
theorem FI.next {w wq V : World} {m be : Nat} {e : Ev} {lv : Value} {L : List Wa} {nv : Value} {N : List Nt} {fv : Value} {F : List Wa} (h : FI w wq m be e lv L nv N fv F) (hb : Below wq.heap.size wq V) : FI w V m be e lv L nv N fv F :=
  ⟨h.n.next hb, h.f.next hb, h.nf, h.bm, fun i x hx => by
    obtain ⟨b, off, cap, e1, h1, h2, h3⟩ := h.rd i x hx
    exact ⟨b, off, cap, e1, h1, h2, h3.kept hb (Nat.lt_of_lt_of_le h1 h.mz)⟩, (hb.block _ (Nat.lt_of_lt_of_le h.bm h.mz)).trans h.e, nnext h.b hb, h.wm, Nat.le_trans h.mz hb.size⟩
end Go.Proofs.YtnlnojjaebojfaaGreatDoor

namespace Go.Proofs.YtnlnojjaebojfaaGreatDoor
open Go.RowKit
set_option maxRecDepth 20000 in
set_option maxHeartbeats 2000000 in
theorem rsameW_any (va vb : Value) (ws : List Wa) (w : World) (ha : SeqV w va ws) (hb : SeqV w vb ws) (hl : ws.length ≤ 140737488355328) :
    Calls Tryz.prog 20 #[va, vb] w fun e w' => e = .returned (.bool true) ∧ Below w.heap.size w w' := by
  have K : ∀ (v : Value), SeqV w v ws → ∀ W, Below w.heap.size w W → ∀ (i : Nat) (x : Wa), ws[i]? = some x → ∃ b off c, v = .slice (some ⟨b, off, none⟩) ws.length c ∧ b < w.heap.size ∧ RowAt W b off (cellsL ws) := by
    intro v hv W hW i x hx
    obtain ⟨b, off, c, e, hb, hr, _, _⟩ := seq_row hv (by intro h0; rw [h0] at hx; simp at hx)
    exact ⟨b, off, c, e, hb, hr.kept hW hb⟩
  have K1 := hide (K va ha)
  have K2 := hide (K vb hb)
  obtain ⟨aa, ac, rfl⟩ := seq_slice ha
  obtain ⟨ba, bc, rfl⟩ := seq_slice hb
  clear ha hb K
  go_enter Tryz.func20, Tryz.ntmps20
  go_wp2_with fail
  go_loopg [13] ws.length (fun kx s13 wr => ∃ k : Nat, s13 = .int .i64 k ∧ k ≤ ws.length ∧ ws.length - k ≤ kx ∧ Hid (Below w.heap.size w wr))
  case atStart => exact ⟨0, rfl, Nat.zero_le _, Nat.le_refl _, hide (Below.refl _ _)⟩
  case round =>
    obtain ⟨k, rfl, hk, hg, hB⟩ := hrel
    by_cases hlt : k < ws.length
    · obtain ⟨x, hx⟩ : ∃ x, ws[k]? = some x := ⟨_, List.getElem?_eq_getElem hlt⟩
      obtain ⟨b1, o1, cc1, he, hb1, q1⟩ := unhide K1 wr (unhide hB) k x hx
      simp only [Value.slice.injEq] at he
      obtain ⟨rfl, _, rfl⟩ := he
      obtain ⟨b2, o2, cc2, he, hb2, q2⟩ := unhide K2 wr (unhide hB) k x hx
      simp only [Value.slice.injEq] at he
      obtain ⟨rfl, _, rfl⟩ := he
      have d0 := q1.w0 hx
      have d1 := q1.w1 hx
      have d2 := q1.w2 hx
      have r0 := q2.w0 hx
      have r1 := q2.w1 hx
      have r2 := q2.w2 hx
      have hlti : (k : Int) < (ws.length : Int) := by omega
      clear q1 q2 hx
      go_wp2_with fail
      go_region
      go_wp2_with fail
      go_roundg (ws.length - (k + 1))
      case measure => omega
      case rel => exact ⟨k + 1, rfl, by omega, Nat.le_refl _, hide (nnext (unhide hB) (Below.refl _ _).drew)⟩
    · obtain rfl : k = ws.length := by omega
      go_wp2_with fail
      go_ret
      exact ⟨rfl, unhide hB⟩

end Go.Proofs.YtnlnojjaebojfaaGreatDoor

namespace Go.Proofs.YtnlnojjaebojfaaGreatDoor
open Go.RowKit
set_option maxRecDepth 10000 in

set_option maxHeartbeats 1000000 in
theorem rsameP_any (id ep dn : Int) (ts : List WTxn) (v1 v2 : Value) (w : World) (hl : ts.length ≤ 1000000) (h1 : LogV w v1 ts) (h2 : LogV w v2 ts) :
    Calls Tryz.prog 18 #[.agg #[.int .i64 id, .int .i64 ep, v1, .int .i64 dn], .agg #[.int .i64 id, .int .i64 ep, v2, .int .i64 dn]] w fun e w' => e = .returned (.bool true) ∧ Below w.heap.size w w' := by
  have CL := fun W (hW : Below w.heap.size w W) => rsl_any v1 v2 ts W hl (h1.next hW) (h2.next hW)
  obtain ⟨a1, c1, rfl⟩ := log_slice h1
  obtain ⟨a2, c2, rfl⟩ := log_slice h2
  clear h1 h2 hl
  go_enter Tryz.func18, Tryz.ntmps18
  go_wp2_with fail
  refine (CL _ (nnext (allocB _ _) (allocB _ _))).mono ?_
  rintro e w1 ⟨rfl, hb1⟩
  have hB1 := nbox_then (nbox_then hb1)
  clear hb1 CL
  go_wp2_with fail
  go_ret
  exact ⟨rfl, hB1⟩

/-- nothing of it is longer than these comparisons bear -/
structure Few (s : Sv) : Prop where
  d : s.fs.length ≤ 1000000
  l : s.ts.length ≤ 1000000
  n : s.tr.ns.length ≤ 140737488355328
  si : s.tr.ss.length ≤ 140737488355328
  wa : s.ws.length ≤ 140737488355328

set_option maxRecDepth 10000 in
set_option maxHeartbeats 2000000 in
theorem rsameS_any (s : Sv) (v1 v2 : Value) (w : World) (hf : Few s) (h1 : SvV w v1 s) (h2 : SvV w v2 s) :
    Calls Tryz.prog 7 #[v1, v2] w fun e w' => e = .returned (.bool true) ∧ Below w.heap.size w w' := by
  obtain ⟨ad, nd, cd, al, cl, an, cn, ai, ci, aw, cw, rfl, d1, l1, n1, s1, k1⟩ := h1.five
  obtain ⟨bd, md, ed, bl, el, bn, en, bi, ei, bw, ew, rfl, d2, l2, n2, s2, k2⟩ := h2.five
  have CD := fun W (hW : Below w.heap.size w W) => rsame_any _ _ s.fs W hf.d (d1.next hW) (d2.next hW)
  have CP := fun W (hW : Below w.heap.size w W) => rsameP_any s.id s.ep s.dn s.ts _ _ W hf.l (l1.next hW) (l2.next hW)
  have CT := fun W (hW : Below w.heap.size w W) => rsameT_any s.tr _ _ _ _ W (n1.next hW) (s1.next hW) (n2.next hW) (s2.next hW) hf.n hf.si
  have CW := fun W (hW : Below w.heap.size w W) => rsameW_any _ _ s.ws W (k1.next hW) (k2.next hW) hf.wa
  have HD := hide CD
  have HP := hide CP
  have HT := hide CT
  have HW := hide CW
  clear CD CP CT CW h1 h2 d1 d2 l1 l2 n1 n2 s1 s2 k1 k2 hf
  obtain ⟨up, fs, id, ep, ts, dn, ⟨tz, tns, tss⟩, ws⟩ := s
  simp only at *
  go_enter Tryz.func7, Tryz.ntmps7
  go_wp2_with fail
  have X0 := Box10.new w up id ep dn tz (.slice ad nd cd) (.slice al ts.length cl) (.slice an tns.length cn) (.slice ai tss.length ci) (.slice aw ws.length cw)
  have X1 := X0.next (allocB _ (.cells #[.bool up, .slice bd md ed, .int .i64 id, .int .i64 ep, .slice bl ts.length el, .int .i64 dn, .int .i64 tz, .slice bn tns.length en, .slice bi tss.length ei, .slice bw ws.length ew] 49))
  have Y1 := Box10.new (w.alloc (.cells #[.bool up, .slice ad nd cd, .int .i64 id, .int .i64 ep, .slice al ts.length cl, .int .i64 dn, .int .i64 tz, .slice an tns.length cn, .slice ai tss.length ci, .slice aw ws.length cw] 49)) up id ep dn tz (.slice bd md ed) (.slice bl ts.length el) (.slice bn tns.length en) (.slice bi tss.length ei) (.slice bw ws.length ew)
  rw [show (w.alloc (.cells #[.bool up, .slice ad nd cd, .int .i64 id, .int .i64 ep, .slice al ts.length cl, .int .i64 dn, .int .i64 tz, .slice an tns.length cn, .slice ai tss.length ci, .slice aw ws.length cw] 49)).heap.size = w.heap.size + 1 by simp] at Y1
  have hB0 : Below w.heap.size w ((w.alloc (.cells #[.bool up, .slice ad nd cd, .int .i64 id, .int .i64 ep, .slice al ts.length cl, .int .i64 dn, .int .i64 tz, .slice an tns.length cn, .slice ai tss.length ci, .slice aw ws.length cw] 49)).alloc (.cells #[.bool up, .slice bd md ed, .int .i64 id, .int .i64 ep, .slice bl ts.length el, .int .i64 dn, .int .i64 tz, .slice bn tns.length en, .slice bi tss.length ei, .slice bw ws.length ew] 49)) := nnext (allocB _ _) (allocB _ _)
  generalize (w.alloc (.cells #[.bool up, .slice ad nd cd, .int .i64 id, .int .i64 ep, .slice al ts.length cl, .int .i64 dn, .int .i64 tz, .slice an tns.length cn, .slice ai tss.length ci, .slice aw ws.length cw] 49)).alloc (.cells #[.bool up, .slice bd md ed, .int .i64 id, .int .i64 ep, .slice bl ts.length el, .int .i64 dn, .int .i64 tz, .slice bn tns.length en, .slice bi tss.length ei, .slice bw ws.length ew] 49) = W0 at *
  have HX0 := hide X1
  have HY0 := hide Y1
  have HB0 := hide hB0
  clear X0 X1 Y1 hB0
  refine (unhide HD _ (unhide HB0)).mono ?_
  rintro e w1 ⟨rfl, hb1⟩
  have HX1 := hide ((unhide HX0).next hb1)
  have HY1 := hide ((unhide HY0).next hb1)
  have HB1 := hide (nnext (unhide HB0) hb1)
  obtain ⟨x0, x1, x2, x3, x4, x5, x6, x7, x8, x9⟩ := (unhide HX1).cells
  obtain ⟨y0, y1, y2, y3, y4, y5, y6, y7, y8, y9⟩ := (unhide HY1).cells
  clear hb1 HX0 HY0 HB0 HD
  go_wp2_with fail
  clear x0 x1 x2 x3 x4 x5 x6 x7 x8 x9 y0 y1 y2 y3 y4 y5 y6 y7 y8 y9
  refine (unhide HP _ (unhide HB1)).mono ?_
  rintro e w2 ⟨rfl, hb2⟩
  have HX2 := hide ((unhide HX1).next hb2)
  have HY2 := hide ((unhide HY1).next hb2)
  have HB2 := hide (nnext (unhide HB1) hb2)
  obtain ⟨x0, x1, x2, x3, x4, x5, x6, x7, x8, x9⟩ := (unhide HX2).cells
  obtain ⟨y0, y1, y2, y3, y4, y5, y6, y7, y8, y9⟩ := (unhide HY2).cells
  clear hb2 HX1 HY1 HB1 HP
  go_wp2_with fail
  clear x0 x1 x2 x3 x4 x5 x6 x7 x8 x9 y0 y1 y2 y3 y4 y5 y6 y7 y8 y9
  refine (unhide HT _ (unhide HB2)).mono ?_
  rintro e w3 ⟨rfl, hb3⟩
  have HX3 := hide ((unhide HX2).next hb3)
  have HY3 := hide ((unhide HY2).next hb3)
  have HB3 := hide (nnext (unhide HB2) hb3)
  obtain ⟨x0, x1, x2, x3, x4, x5, x6, x7, x8, x9⟩ := (unhide HX3).cells
  obtain ⟨y0, y1, y2, y3, y4, y5, y6, y7, y8, y9⟩ := (unhide HY3).cells
  clear hb3 HX2 HY2 HB2 HT
  go_wp2_with fail
  clear x0 x1 x2 x3 x4 x5 x6 x7 x8 x9 y0 y1 y2 y3 y4 y5 y6 y7 y8 y9
  refine (unhide HW _ (unhide HB3)).mono ?_
  rintro e w4 ⟨rfl, hb4⟩
  have HX4 := hide ((unhide HX3).next hb4)
  have HY4 := hide ((unhide HY3).next hb4)
  have HB4 := hide (nnext (unhide HB3) hb4)
  obtain ⟨x0, x1, x2, x3, x4, x5, x6, x7, x8, x9⟩ := (unhide HX4).cells
  obtain ⟨y0, y1, y2, y3, y4, y5, y6, y7, y8, y9⟩ := (unhide HY4).cells
  clear hb4 HX3 HY3 HB3 HW
  go_wp2_with fail
  clear x0 x1 x2 x3 x4 x5 x6 x7 x8 x9 y0 y1 y2 y3 y4 y5 y6 y7 y8 y9
  go_ret
  exact ⟨rfl, unhide HB4⟩

end Go.Proofs.YtnlnojjaebojfaaGreatDoor

namespace Go.Proofs.YtnlnojjaebojfaaGreatDoor
open Go.RowKit

structure En where
  p : List UInt8
  d : List UInt8
  t : Bool
/- where a path stands -/
end Go.Proofs.YtnlnojjaebojfaaGreatDoor

namespace Go.Proofs.YtnlnojjaebojfaaGreatDoor
open Go.RowKit

def encells (e : En) : List Value := [.string ⟨e.p.toArray⟩, .string ⟨e.d.toArray⟩, .bool e.t]
def clV (s z : Int) (v : Value) : Value := .agg #[.int .i64 s, .int .i64 z, v]
instance layC : Lay En := ⟨3, encells, 87, fun _ => rfl, fun x u hu => by simp [encells] at hu; rcases hu with rfl | rfl | rfl <;> rfl⟩
theorem RowAt.en0 {w : World} {b off : Nat} {xs : List En} (h : RowAt w b off (cellsL xs)) {i : Nat} {x : En} (hi : xs[i]? = some x) : w.cell? ⟨b, off + i * 3, none⟩ = some (.string ⟨x.p.toArray⟩) :=
  h (i * 3) _ (cellsL_get xs i x hi 0 (by decide))
theorem RowAt.en1 {w : World} {b off : Nat} {xs : List En} (h : RowAt w b off (cellsL xs)) {i : Nat} {x : En} (hi : xs[i]? = some x) : w.cell? ⟨b, off + i * 3 + 1, none⟩ = some (.string ⟨x.d.toArray⟩) := by
  rw [Nat.add_assoc]; exact h (i * 3 + 1) _ (cellsL_get xs i x hi 1 (by decide))
theorem RowAt.en2 {w : World} {b off : Nat} {xs : List En} (h : RowAt w b off (cellsL xs)) {i : Nat} {x : En} (hi : xs[i]? = some x) : w.cell? ⟨b, off + i * 3 + 2, none⟩ = some (.bool x.t) := by
  rw [Nat.add_assoc]; exact h (i * 3 + 2) _ (cellsL_get xs i x hi 2 (by decide))
theorem crow {α : Type} [Lay α] {w : World} {v : Value} {xs : List α} (hv : SeqV w v xs) : ∀ W, Below w.heap.size w W → ∀ (k : Nat) (x : α), xs[k]? = some x → ∃ b off cap, v = .slice (some ⟨b, off, none⟩) xs.length cap ∧ b < w.heap.size ∧ RowAt W b off (cellsL xs) := fun W hW k x hx => by
  obtain ⟨b, off, cap, e, hb, hr, _, _⟩ := seq_row hv (fun h0 => by obtain ⟨h1, _⟩ := List.getElem?_eq_some_iff.1 hx; rw [h0] at h1; simp at h1)
  exact ⟨b, off, cap, e, hb, hr.kept hW hb⟩
/-- block k holds just this end -/
def CBox (W : World) (k : Nat) (s z : Int) (v : Value) : Prop := W.heap[k]? = some (.cells #[.int .i64 s, .int .i64 z, v] 54 (0, 0))
theorem CBox.lt {W : World} {k : Nat} {s z : Int} {v : Value} (h : CBox W k s z v) : k < W.heap.size := (Array.getElem?_eq_some_iff.1 h).1
theorem CBox.c0 {W : World} {k : Nat} {s z : Int} {v : Value} (h : CBox W k s z v) : W.cell? ⟨k, 0, none⟩ = some (.int .i64 s) := by unfold CBox at h; simp [World.cell?, h]
theorem CBox.c1 {W : World} {k : Nat} {s z : Int} {v : Value} (h : CBox W k s z v) : W.cell? ⟨k, 1, none⟩ = some (.int .i64 z) := by unfold CBox at h; simp [World.cell?, h]
theorem CBox.c2 {W : World} {k : Nat} {s z : Int} {v : Value} (h : CBox W k s z v) : W.cell? ⟨k, 2, none⟩ = some v := by unfold CBox at h; simp [World.cell?, h]
theorem CBox.fr {W : World} {k : Nat} {s z : Int} {v : Value} (h : CBox W k s z v) (j : Nat) : W.frozen? ⟨k, j, none⟩ = false := by unfold CBox at h; simp [World.frozen?, h]
theorem CBox.kept {W V : World} {B k : Nat} {s z : Int} {v : Value} (h : CBox W k s z v) (hb : Below B W V) (hk : k < B) : CBox V k s z v := (hb.block k hk).trans h
theorem CBox.next {W V : World} {k : Nat} {s z : Int} {v : Value} (h : CBox W k s z v) (hb : Below W.heap.size W V) : CBox V k s z v := h.kept hb h.lt
theorem CBox.grown {W V : World} {k : Nat} {s z : Int} {v : Value} {r : Option Nat} (h : CBox W k s z v) (hg : W.grownBy V r) (hr : some k ≠ r) : CBox V k s z v := (hg.block k h.lt hr).trans h
theorem CBox.new (w : World) (s z : Int) (v : Value) : CBox (w.alloc (.cells #[.int .i64 s, .int .i64 z, v] 54)) w.heap.size s z v := heap_alloc_new w _
theorem CBox.other {W : World} {k : Nat} {s z : Int} {v : Value} (h : CBox W k s z v) {a : Addr} (ha : k ≠ a.block) (u : Value) : CBox (W.setCell a u) k s z v := (Below.heap_setCell W a u k ha).trans h
theorem OneR.e0 {W : World} {b : Nat} {x : En} (h : OneR W b x) : W.cell? ⟨b, 0, none⟩ = some (.string ⟨x.p.toArray⟩) := h.row 0 _ rfl
theorem OneR.e1 {W : World} {b : Nat} {x : En} (h : OneR W b x) : W.cell? ⟨b, 1, none⟩ = some (.string ⟨x.d.toArray⟩) := by have := h.row 1 _ rfl; simpa using this
theorem OneR.e2 {W : World} {b : Nat} {x : En} (h : OneR W b x) : W.cell? ⟨b, 2, none⟩ = some (.bool x.t) := by have := h.row 2 _ rfl; simpa using this
end Go.Proofs.YtnlnojjaebojfaaGreatDoor

namespace Go.Proofs.YtnlnojjaebojfaaGreatDoor
open Go.RowKit
set_option maxRecDepth 20000 in
set_option maxHeartbeats 2000000 in
theorem rsameC_any (s z : Int) (va vb : Value) (es : List En) (w : World) (ha : SeqV w va es) (hb : SeqV w vb es) (hl : es.length ≤ 140737488355328) :
    Calls Tryz.prog 9 #[clV s z va, clV s z vb] w fun e w' => e = .returned (.bool true) ∧ Below w.heap.size w w' := by
  have K1 := hide (crow ha)
  have K2 := hide (crow hb)
  obtain ⟨aa, ac, rfl⟩ := seq_slice ha
  obtain ⟨ba, bc, rfl⟩ := seq_slice hb
  unfold clV
  clear ha hb
  have B0 : Below w.heap.size w ((w.alloc (.cells #[.int .i64 s, .int .i64 z, .slice aa es.length ac] 54)).alloc (.cells #[.int .i64 s, .int .i64 z, .slice ba es.length bc] 54)) := nnext (allocB _ _) (allocB _ _)
  have X0 := (CBox.new w s z (.slice aa es.length ac)).next (allocB _ (.cells #[.int .i64 s, .int .i64 z, .slice ba es.length bc] 54))
  have X1 := CBox.new (w.alloc (.cells #[.int .i64 s, .int .i64 z, .slice aa es.length ac] 54)) s z (.slice ba es.length bc)
  rw [show (w.alloc (.cells #[.int .i64 s, .int .i64 z, .slice aa es.length ac] 54)).heap.size = w.heap.size + 1 by simp] at X1
  have HB0 := hide B0
  have HX0 := hide X0
  have HX1 := hide X1
  clear B0 X0 X1
  go_enter Tryz.func9, Tryz.ntmps9
  go_wp2_with fail
  generalize (w.alloc (.cells #[.int .i64 s, .int .i64 z, .slice aa es.length ac] 54)).alloc (.cells #[.int .i64 s, .int .i64 z, .slice ba es.length bc] 54) = W0 at *
  go_loopg [30] es.length (fun kx s30 wr => ∃ k : Nat, s30 = .int .i64 k ∧ k ≤ es.length ∧ es.length - k ≤ kx ∧ Hid (Below W0.heap.size W0 wr))
  case atStart => exact ⟨0, rfl, Nat.zero_le _, Nat.le_refl _, hide (Below.refl _ _)⟩
  case round =>
    obtain ⟨k, rfl, hk, hg, hB⟩ := hrel
    have HBw := hide (nnext (unhide HB0) (unhide hB))
    by_cases hlt : k < es.length
    · obtain ⟨x, hx⟩ : ∃ x, es[k]? = some x := ⟨_, List.getElem?_eq_getElem hlt⟩
      obtain ⟨b1, o1, cc1, he, hb1, q1⟩ := unhide K1 wr (unhide HBw) k x hx
      simp only [Value.slice.injEq] at he
      obtain ⟨rfl, _, rfl⟩ := he
      obtain ⟨b2, o2, cc2, he, hb2, q2⟩ := unhide K2 wr (unhide HBw) k x hx
      simp only [Value.slice.injEq] at he
      obtain ⟨rfl, _, rfl⟩ := he
      have d0 := q1.en0 hx
      have d1 := q1.en1 hx
      have d2 := q1.en2 hx
      have r0 := q2.en0 hx
      have r1 := q2.en1 hx
      have r2 := q2.en2 hx
      have m1 := ((unhide HX0).next (unhide hB)).c2
      have m2 := ((unhide HX1).next (unhide hB)).c2
      have hlti : (k : Int) < (es.length : Int) := by omega
      clear q1 q2 hx
      go_wp2_with fail
      go_region
      go_wp2_with fail
      go_roundg (es.length - (k + 1))
      case measure => omega
      case rel => exact ⟨k + 1, rfl, by omega, Nat.le_refl _, hide (nnext (unhide hB) (Below.refl _ _).drew)⟩
    · obtain rfl : k = es.length := by omega
      go_wp2_with fail
      go_ret
      exact ⟨rfl, unhide HBw⟩

end Go.Proofs.YtnlnojjaebojfaaGreatDoor

namespace Go.Proofs.YtnlnojjaebojfaaGreatDoor
open Go.RowKit

/-- n in ten decimal digits, noughts ahead -/
def ten (n : Nat) : List UInt8 := (List.range 10).map fun t => Lib.dg n (9 - t)
end Go.Proofs.YtnlnojjaebojfaaGreatDoor

namespace Go.Proofs.YtnlnojjaebojfaaGreatDoor
open Go.RowKit

structure Rq where
  o : Int
  s : Int
  p : List UInt8
  d : List UInt8
  v : Int
  f : Int
/- OpDelete, OpSet -/
/- OpCreate -/
/- all kinds -/
end Go.Proofs.YtnlnojjaebojfaaGreatDoor

namespace Go.Proofs.YtnlnojjaebojfaaGreatDoor
open Go.RowKit

structure Dd where
  k : Int
  c : Int
  s : Int
  q : Rq
  lo : Int
  sl : Int
  ke : Int
  wt : Bool
def ddcells (d : Dd) : List Value := [.int .i64 d.k, .int .i64 d.c, .int .i64 d.s, .int .i64 d.q.o, .int .i64 d.q.s, .string ⟨d.q.p.toArray⟩, .string ⟨d.q.d.toArray⟩, .int .i64 d.q.v, .int .i64 d.q.f, .int .i64 d.lo, .int .i64 d.sl, .int .i64 d.ke, .bool d.wt]
def ddV (d : Dd) : Value := .agg #[.int .i64 d.k, .int .i64 d.c, .int .i64 d.s, .int .i64 d.q.o, .int .i64 d.q.s, .string ⟨d.q.p.toArray⟩, .string ⟨d.q.d.toArray⟩, .int .i64 d.q.v, .int .i64 d.q.f, .int .i64 d.lo, .int .i64 d.sl, .int .i64 d.ke, .bool d.wt]
instance layD : Lay Dd := ⟨13, ddcells, 25, fun _ => rfl, fun x u hu => by simp [ddcells] at hu; rcases hu with rfl | rfl | rfl | rfl | rfl | rfl | rfl | rfl | rfl | rfl | rfl | rfl | rfl <;> rfl⟩
end Go.Proofs.YtnlnojjaebojfaaGreatDoor

namespace Go.Proofs.YtnlnojjaebojfaaGreatDoor
open Go.RowKit

/-- a box of a reply of noughts -/
def RpB (W : World) (g : Nat) : Prop := W.heap[g]? = some (.cells #[.int .i64 0, .int .i64 0, .string ⟨#[]⟩, .string ⟨#[]⟩, .int .i64 0, .int .i64 0, .int .i64 0, .int .i64 0, .int .i64 0, .int .i64 0, .int .i64 0, .slice none 0 0] 32 (0, 0))
theorem RpB.new (w : World) : RpB (w.alloc (.cells #[.int .i64 0, .int .i64 0, .string ⟨#[]⟩, .string ⟨#[]⟩, .int .i64 0, .int .i64 0, .int .i64 0, .int .i64 0, .int .i64 0, .int .i64 0, .int .i64 0, .slice none 0 0] 32)) w.heap.size := heap_alloc_new w _
theorem RpB.lt {W : World} {g : Nat} (h : RpB W g) : g < W.heap.size := (Array.getElem?_eq_some_iff.1 h).1
theorem RpB.next {W V : World} {g : Nat} (h : RpB W g) (hb : Below W.heap.size W V) : RpB V g := (hb.block g h.lt).trans h
theorem RpB.cells {W : World} {g : Nat} (h : RpB W g) : (W.cell? ⟨g, 0, none⟩ = some (.int .i64 0) ∧ W.cell? ⟨g, 1, none⟩ = some (.int .i64 0) ∧ W.cell? ⟨g, 2, none⟩ = some (.string ⟨#[]⟩) ∧ W.cell? ⟨g, 3, none⟩ = some (.string ⟨#[]⟩) ∧ W.cell? ⟨g, 4, none⟩ = some (.int .i64 0) ∧ W.cell? ⟨g, 5, none⟩ = some (.int .i64 0)) ∧ (W.cell? ⟨g, 6, none⟩ = some (.int .i64 0) ∧ W.cell? ⟨g, 7, none⟩ = some (.int .i64 0) ∧ W.cell? ⟨g, 8, none⟩ = some (.int .i64 0) ∧ W.cell? ⟨g, 9, none⟩ = some (.int .i64 0) ∧ W.cell? ⟨g, 10, none⟩ = some (.int .i64 0) ∧ W.cell? ⟨g, 11, none⟩ = some (.slice none 0 0)) := by
  unfold RpB at h
  refine ⟨⟨?_, ?_, ?_, ?_, ?_, ?_⟩, ?_, ?_, ?_, ?_, ?_, ?_⟩ <;> simp [World.cell?, h]
theorem RpB.froz {W : World} {g : Nat} (h : RpB W g) (j : Nat) : W.frozen? ⟨g, j, none⟩ = false := by
  unfold RpB at h
  simp [World.frozen?, h]
/-- a reply stored whole -/
def putR (W : World) (g : Nat) (x0 x1 x2 x3 x4 x5 x6 x7 x8 x9 x10 x11 : Value) : World :=
  (((((((((((W.setCell ⟨g, 0, none⟩ x0).setCell ⟨g, 1, none⟩ x1).setCell ⟨g, 2, none⟩ x2).setCell ⟨g, 3, none⟩ x3).setCell ⟨g, 4, none⟩ x4).setCell ⟨g, 5, none⟩ x5).setCell ⟨g, 6, none⟩ x6).setCell ⟨g, 7, none⟩ x7).setCell ⟨g, 8, none⟩ x8).setCell ⟨g, 9, none⟩ x9).setCell ⟨g, 10, none⟩ x10).setCell ⟨g, 11, none⟩ x11
theorem putR_below {w W : World} {g : Nat} (h : Below w.heap.size w W) (hg : w.heap.size ≤ g) (x0 x1 x2 x3 x4 x5 x6 x7 x8 x9 x10 x11 : Value) : Below w.heap.size w (putR W g x0 x1 x2 x3 x4 x5 x6 x7 x8 x9 x10 x11) :=
  (((((((((((h.setCell hg x0).setCell hg x1).setCell hg x2).setCell hg x3).setCell hg x4).setCell hg x5).setCell hg x6).setCell hg x7).setCell hg x8).setCell hg x9).setCell hg x10).setCell hg x11
theorem Touch.new {F : Nat → Prop} {w W : World} (h : Touch F w W) {g j : Nat} (hg : w.heap.size ≤ g) (v : Value) : Touch F w (W.setCell ⟨g, j, none⟩ v) :=
  ⟨h.os, h.tape, h.output, by simpa [World.setCell] using h.size, fun k hk hf => (Below.heap_setCell W ⟨g, j, none⟩ v k (by show k ≠ g; omega)).trans (h.block k hk hf)⟩
end Go.Proofs.YtnlnojjaebojfaaGreatDoor
