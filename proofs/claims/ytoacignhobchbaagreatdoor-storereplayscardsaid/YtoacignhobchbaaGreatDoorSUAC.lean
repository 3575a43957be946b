/-
  Copies of a tree (aviarykeep.own, aviaryref.CopyTree), tree.New and tree.Get: the walks.
  tree.Get and tree.Kids: the walks.
  aviaryref's SameTree and SameEvents, of alike ones: the walks.
  aviaryref's Apply: how what it makes lies in memory; its closures no and parent: the walks.
-/
import Derived.Test.YtoacignhobchbaaGreatDoorSUN
import Derived.Deep.CutRange
import Derived.Test.YtoacignhobchbaaGreatDoorSUY
import Derived.Test.YtoacignhobchbaaGreatDoorSUA
import Derived.Test.YtoacignhobchbaaGreatDoorSUC
import Derived.Lib.ConvBytes
import Derived.Lib.Strings
import Derived.OwnWalk
import Derived.WalkSmall
import Derived.Maps.AppendAt
import Derived.RegionTactic
import Derived.Test.YtoacignhobchbaaGreatDoorSUF
import Derived.ChangeAlike
import Derived.Test.YtoacignhobchbaaGreatDoorSUL
import Derived.Deep.QuietTactic
import Derived.BigQuiet
import Derived.BigRegion
namespace Go.Proofs.YtoacignhobchbaaGreatDoor
open Go.RowKit

/- append(nil, l...) -/
/-- a tree's box at q, a box for the answer behind it -/
structure OB (w W : World) (z : Int) (vn vs : Value) : Prop where
  t : W.heap[w.heap.size]? = some (.cells #[.int .i64 z, vn, vs] 34 (0, 0))
  r : W.heap[w.heap.size + 1]? = some (.cells #[.int .i64 0, .slice none 0 0, .slice none 0 0] 34 (0, 0))
  b : Below w.heap.size w W
theorem OB.new (w : World) (z : Int) (vn vs : Value) : OB w ((w.alloc (.cells #[.int .i64 z, vn, vs] 34)).alloc (.cells #[.int .i64 0, .slice none 0 0, .slice none 0 0] 34)) z vn vs := by
  refine ⟨?_, ?_, nnext (allocB _ _) (allocB _ _)⟩
  · rw [(allocB _ _).block _ (by simp)]
    exact heap_alloc_new w _
  · have h := heap_alloc_new (w.alloc (.cells #[.int .i64 z, vn, vs] 34)) (.cells #[.int .i64 0, .slice none 0 0, .slice none 0 0] 34)
    rw [show (w.alloc (.cells #[.int .i64 z, vn, vs] 34)).heap.size = w.heap.size + 1 by simp] at h
    exact h
theorem OB.lt {w W : World} {z : Int} {vn vs : Value} (h : OB w W z vn vs) : w.heap.size + 1 < W.heap.size := (Array.getElem?_eq_some_iff.1 h.r).1
theorem OB.next {w W V : World} {z : Int} {vn vs : Value} (h : OB w W z vn vs) (hb : Below W.heap.size W V) : OB w V z vn vs := by
  have := h.lt
  exact ⟨(hb.block _ (by omega)).trans h.t, (hb.block _ (by omega)).trans h.r, nnext h.b hb⟩
theorem OB.drew {w W : World} {z : Int} {vn vs : Value} (h : OB w W z vn vs) : OB w W.drew z vn vs := h.next (Below.refl _ _).drew
theorem grown_below {W V : World} (h : W.grownBy V none) : Below W.heap.size W V := ⟨h.os, h.tape, h.output, h.size, fun k hk => h.block k hk (by simp)⟩
theorem OB.grown {w W V : World} {z : Int} {vn vs : Value} (h : OB w W z vn vs) (hg : W.grownBy V none) : OB w V z vn vs := h.next (grown_below hg)
theorem OB.cells {w W : World} {z : Int} {vn vs : Value} (h : OB w W z vn vs) : W.cell? ⟨w.heap.size, 0, none⟩ = some (.int .i64 z) ∧ W.cell? ⟨w.heap.size, 1, none⟩ = some vn ∧ W.cell? ⟨w.heap.size, 2, none⟩ = some vs ∧ W.frozen? ⟨w.heap.size, 1, none⟩ = false ∧ W.frozen? ⟨w.heap.size, 2, none⟩ = false := by
  have h1 := h.t
  refine ⟨?_, ?_, ?_, ?_, ?_⟩ <;> simp [World.cell?, World.frozen?, h1]
theorem OB.res {w W : World} {z : Int} {vn vs : Value} (h : OB w W z vn vs) : W.cell? ⟨w.heap.size + 1, 0, none⟩ = some (.int .i64 0) ∧ W.cell? ⟨w.heap.size + 1, 1, none⟩ = some (.slice none 0 0) ∧ W.cell? ⟨w.heap.size + 1, 2, none⟩ = some (.slice none 0 0) ∧ W.frozen? ⟨w.heap.size + 1, 0, none⟩ = false ∧ W.frozen? ⟨w.heap.size + 1, 1, none⟩ = false ∧ W.frozen? ⟨w.heap.size + 1, 2, none⟩ = false := by
  have h1 := h.r
  refine ⟨?_, ?_, ?_, ?_, ?_, ?_⟩ <;> simp [World.cell?, World.frozen?, h1]
theorem OB.put {w W : World} {z : Int} {vn vs : Value} (h : OB w W z vn vs) (v : Value) (c : Nat) (vn' vs' : Value) (hc : (#[.int .i64 z, vn, vs] : Array Value).set! c v = #[.int .i64 z, vn', vs']) : OB w (W.setCell ⟨w.heap.size, c, none⟩ v) z vn' vs' := by
  refine ⟨?_, (Below.heap_setCell _ _ _ _ (by simp)).trans h.r, h.b.setCell (by simp) _⟩
  rw [block_set v h.t, ← hc]
  simp
/-- copied, but for the answer -/
def OwnQ (w : World) (z : Int) (ns : List Nd) (ss : List Int) (wx : World) : Prop :=
  ∃ an cn ai ci, OB w wx z (.slice an ns.length cn) (.slice ai ss.length ci) ∧ OwnS wx (w.heap.size + 2) (.slice an ns.length cn) ns ∧ OwnS wx (w.heap.size + 2) (.slice ai ss.length ci) ss
theorem OwnQ.next {w W V : World} {z : Int} {ns : List Nd} {ss : List Int} (h : OwnQ w z ns ss W) (hb : Below W.heap.size W V) : OwnQ w z ns ss V := by
  obtain ⟨an, cn, ai, ci, h1, h2, h3⟩ := h
  exact ⟨an, cn, ai, ci, h1.next hb, h2.next hb, h3.next hb⟩
/-- what a copy gives -/
def GivesT (w : World) (t : Tr) (e : Ending) (w' : World) : Prop :=
  ∃ vn vs, e = .returned (.agg #[.int .i64 t.z, vn, vs]) ∧ OwnS w' w.heap.size vn t.ns ∧ OwnS w' w.heap.size vs t.ss ∧ Below w.heap.size w w'
/- New, Get -/
theorem one_root (w : World) : OwnS (w.alloc (.cells #[.string ⟨#[47]⟩, .string ⟨#[]⟩, .int .i64 0, .int .i64 0, .int .i64 0, .int .i64 0, .int .i64 0, .int .i64 0, .int .i64 0] 70)) w.heap.size (.slice (some ⟨w.heap.size, 0, none⟩) 1 1) [nroot] :=
  .inr ⟨w.heap.size, 1, rfl, Nat.le_refl _, [], by rw [heap_alloc_new]; rfl, by decide, by decide, by decide⟩
set_option maxRecDepth 20000 in
set_option maxHeartbeats 1000000 in
theorem tnew_any (w : World) : Calls Tryz.prog 12 #[] w (GivesT w trNew) := by
  have H : Hid (GivesT w trNew (.returned (.agg #[.int .i64 0, .slice (some ⟨w.heap.size + 1, 0, none⟩) 1 1, .slice none 0 0])) ((w.alloc (.cells #[.int .i64 0, .slice (some ⟨w.heap.size + 1, 0, none⟩) 1 1, .slice none 0 0] 34)).alloc (.cells #[.string ⟨#[47]⟩, .string ⟨#[]⟩, .int .i64 0, .int .i64 0, .int .i64 0, .int .i64 0, .int .i64 0, .int .i64 0, .int .i64 0] 70))) := by
    have h := one_root (w.alloc (.cells #[.int .i64 0, .slice (some ⟨w.heap.size + 1, 0, none⟩) 1 1, .slice none 0 0] 34))
    rw [show (w.alloc (.cells #[.int .i64 0, .slice (some ⟨w.heap.size + 1, 0, none⟩) 1 1, .slice none 0 0] 34)).heap.size = w.heap.size + 1 by simp] at h
    exact ⟨_, _, rfl, h.lower (by omega), .inl ⟨rfl, rfl⟩, nnext (allocB _ _) (allocB _ _)⟩
  go_enter Tryz.func12, Tryz.ntmps12
  go_wp2_with fail
  exact bodyPost_ret (v := .agg #[.int .i64 0, .slice (some ⟨w.heap.size + 1, 0, none⟩) 1 1, .slice none 0 0]) (by simp [results, Tryz.results12, go_sem]) rfl (unhide H)
end Go.Proofs.YtoacignhobchbaaGreatDoor

namespace Go.Proofs.YtoacignhobchbaaGreatDoor
open Go.RowKit

/-- a tree's box, and a node's for the answer -/
structure GB (w W : World) (z : Int) (vn vs : Value) : Prop where
  t : W.heap[w.heap.size]? = some (.cells #[.int .i64 z, vn, vs] 34 (0, 0))
  r : W.heap[w.heap.size + 1]? = some (.cells #[.string ⟨#[]⟩, .string ⟨#[]⟩, .int .i64 0, .int .i64 0, .int .i64 0, .int .i64 0, .int .i64 0, .int .i64 0, .int .i64 0] 70 (0, 0))
  b : Below w.heap.size w W
theorem GB.new (w : World) (z : Int) (vn vs : Value) : GB w ((w.alloc (.cells #[.int .i64 z, vn, vs] 34)).alloc (.cells #[.string ⟨#[]⟩, .string ⟨#[]⟩, .int .i64 0, .int .i64 0, .int .i64 0, .int .i64 0, .int .i64 0, .int .i64 0, .int .i64 0] 70)) z vn vs := by
  refine ⟨?_, ?_, nnext (allocB _ _) (allocB _ _)⟩
  · rw [(allocB _ _).block _ (by simp)]
    exact heap_alloc_new w _
  · have h := heap_alloc_new (w.alloc (.cells #[.int .i64 z, vn, vs] 34)) (.cells #[.string ⟨#[]⟩, .string ⟨#[]⟩, .int .i64 0, .int .i64 0, .int .i64 0, .int .i64 0, .int .i64 0, .int .i64 0, .int .i64 0] 70)
    rw [show (w.alloc (.cells #[.int .i64 z, vn, vs] 34)).heap.size = w.heap.size + 1 by simp] at h
    exact h
theorem GB.lt {w W : World} {z : Int} {vn vs : Value} (h : GB w W z vn vs) : w.heap.size + 1 < W.heap.size := (Array.getElem?_eq_some_iff.1 h.r).1
theorem GB.next {w W V : World} {z : Int} {vn vs : Value} (h : GB w W z vn vs) (hb : Below W.heap.size W V) : GB w V z vn vs := by
  have := h.lt
  exact ⟨(hb.block _ (by omega)).trans h.t, (hb.block _ (by omega)).trans h.r, nnext h.b hb⟩
theorem GB.c1 {w W : World} {z : Int} {vn vs : Value} (h : GB w W z vn vs) : W.cell? ⟨w.heap.size, 1, none⟩ = some vn := by simp [World.cell?, h.t]
theorem GB.one {w W : World} {z : Int} {vn vs : Value} (h : GB w W z vn vs) : OneR W (w.heap.size + 1) nzero := h.r

set_option maxRecDepth 20000 in
set_option maxHeartbeats 2000000 in
theorem tget_gap (z : Int) (vn vs : Value) (ns A B : List Nd) (p : List UInt8) (w : World) (hn : SeqV w vn ns) (hl : ns.length ≤ 100000) (G : NGap ns A B p) :
    Calls Tryz.prog 89 #[.agg #[.int .i64 z, vn, vs], .string ⟨p.toArray⟩] w fun e w' => e = .returned (.tuple #[nodeV nzero, .int .i64 7]) ∧ Below w.heap.size w w' := by
  have CF := hide (fun W (hW : Below w.heap.size w W) => nfind_gap vn ns A B p W (hn.next hW) hl G)
  have B0 := hide (GB.new w z vn vs)
  obtain ⟨na, nc, rfl⟩ := seq_slice hn
  clear hn G
  go_enter Tryz.func89, Tryz.ntmps89
  go_wp2_with fail
  refine (unhide CF _ (unhide B0).b).mono ?_
  rintro e w1 ⟨rfl, hb1⟩
  have b1 := (unhide B0).next hb1
  have o1 := b1.one
  have c0 := o1.cellN 0 _ rfl
  have c1 := o1.cellN 1 _ rfl
  have c2 := o1.cellN 2 _ rfl
  have c3 := o1.cellN 3 _ rfl
  have c4 := o1.cellN 4 _ rfl
  have c5 := o1.cellN 5 _ rfl
  have c6 := o1.cellN 6 _ rfl
  have c7 := o1.cellN 7 _ rfl
  have c8 := o1.cellN 8 _ rfl
  have f0 := o1.frozenN 0
  have f1 := o1.frozenN 1
  have f2 := o1.frozenN 2
  have f3 := o1.frozenN 3
  have f4 := o1.frozenN 4
  have f5 := o1.frozenN 5
  have f6 := o1.frozenN 6
  have f7 := o1.frozenN 7
  have f8 := o1.frozenN 8
  have BB := b1.b
  have HBB := hide BB
  clear CF B0 hb1 b1 o1 BB
  go_wp2_with fail
  have BB := unhide HBB
  exact bodyPost_ret (v := .tuple #[nodeV nzero, .int .i64 7]) (by simp [results, Tryz.results89, go_sem, nodeV, nzero, c0, c1, c2, c3, c4, c5, c6, c7, c8]) rfl
    ⟨rfl, ((((((((BB.setCell (by simp) _).setCell (by simp) _).setCell (by simp) _).setCell (by simp) _).setCell (by simp) _).setCell (by simp) _).setCell (by simp) _).setCell (by simp) _).setCell (by simp) _⟩

set_option maxRecDepth 20000 in
set_option maxHeartbeats 2000000 in
theorem tget_there (z : Int) (vn vs : Value) (ns A B : List Nd) (n : Nd) (p : List UInt8) (w : World) (hn : SeqV w vn ns) (hl : ns.length ≤ 100000) (T : NThere ns A n B p) (hp : n.p.length ≤ 140737488355328) (hd : n.d.length ≤ 140737488355328) :
    Calls Tryz.prog 89 #[.agg #[.int .i64 z, vn, vs], .string ⟨p.toArray⟩] w fun e w' => e = .returned (.tuple #[nodeV n, .int .i64 0]) ∧ Below w.heap.size w w' := by
  have CF := hide (fun W (hW : Below w.heap.size w W) => nfind_there vn ns A B n p W (hn.next hW) hl T)
  have CC := hide (fun W => tcopied_any n W hp hd)
  unfold nodeV at CC
  have hlt : A.length < ns.length := by rw [T.eq]; simp
  have hat : ns[A.length]? = some n := by rw [T.eq]; exact nat_at A n B
  obtain ⟨b, off, cap, rfl, hb, hr, _, _⟩ := seq_row hn (by rw [T.eq]; simp)
  have HR := hide (fun W (hW : Below w.heap.size w W) => hr.kept hW hb)
  have B0 := hide (GB.new w z (.slice (some ⟨b, off, none⟩) ns.length cap) vs)
  clear hn T hr
  have HAT := hide hat
  clear hat
  go_enter Tryz.func89, Tryz.ntmps89
  go_wp2_with fail
  refine (unhide CF _ (unhide B0).b).mono ?_
  rintro e w1 ⟨rfl, hb1⟩
  have b1 := (unhide B0).next hb1
  have HB1 := hide b1
  have e1 := b1.c1
  have q := unhide HR w1 b1.b
  have d0 := q.n0 (unhide HAT)
  have d1 := q.n1 (unhide HAT)
  have d2 := q.n2 (unhide HAT)
  have d3 := q.n3 (unhide HAT)
  have d4 := q.n4 (unhide HAT)
  have d5 := q.n5 (unhide HAT)
  have d6 := q.n6 (unhide HAT)
  have d7 := q.n7 (unhide HAT)
  have d8 := q.n8 (unhide HAT)
  clear q CF b1 hb1
  go_wp2_with fail
  refine (unhide CC _).mono ?_
  rintro e w2 ⟨rfl, hb2⟩
  have b2 := (unhide HB1).next hb2
  have o1 := b2.one
  have c0 := o1.cellN 0 _ rfl
  have c1 := o1.cellN 1 _ rfl
  have c2 := o1.cellN 2 _ rfl
  have c3 := o1.cellN 3 _ rfl
  have c4 := o1.cellN 4 _ rfl
  have c5 := o1.cellN 5 _ rfl
  have c6 := o1.cellN 6 _ rfl
  have c7 := o1.cellN 7 _ rfl
  have c8 := o1.cellN 8 _ rfl
  have f0 := o1.frozenN 0
  have f1 := o1.frozenN 1
  have f2 := o1.frozenN 2
  have f3 := o1.frozenN 3
  have f4 := o1.frozenN 4
  have f5 := o1.frozenN 5
  have f6 := o1.frozenN 6
  have f7 := o1.frozenN 7
  have f8 := o1.frozenN 8
  have HBB := hide b2.b
  clear b2 hb2 o1 CC d0 d1 d2 d3 d4 d5 d6 d7 d8 e1
  go_wp2_with fail
  have BB := unhide HBB
  exact bodyPost_ret (v := .tuple #[nodeV n, .int .i64 0]) (by simp [results, Tryz.results89, go_sem, nodeV, c0, c1, c2, c3, c4, c5, c6, c7, c8]) rfl
    ⟨rfl, ((((((((BB.setCell (by simp) _).setCell (by simp) _).setCell (by simp) _).setCell (by simp) _).setCell (by simp) _).setCell (by simp) _).setCell (by simp) _).setCell (by simp) _).setCell (by simp) _⟩

/- Kids -/
end Go.Proofs.YtoacignhobchbaaGreatDoor

namespace Go.Proofs.YtoacignhobchbaaGreatDoor
open Go.RowKit

/-- two boxes of trees -/
structure TT (w W : World) (z : Int) (vn vs un us : Value) : Prop where
  a : W.heap[w.heap.size]? = some (.cells #[.int .i64 z, vn, vs] 34 (0, 0))
  b : W.heap[w.heap.size + 1]? = some (.cells #[.int .i64 z, un, us] 34 (0, 0))
  bl : Below w.heap.size w W
theorem TT.new (w : World) (z : Int) (vn vs un us : Value) : TT w ((w.alloc (.cells #[.int .i64 z, vn, vs] 34)).alloc (.cells #[.int .i64 z, un, us] 34)) z vn vs un us := by
  refine ⟨?_, ?_, nnext (allocB _ _) (allocB _ _)⟩
  · rw [(allocB _ _).block _ (by simp)]
    exact heap_alloc_new w _
  · have h := heap_alloc_new (w.alloc (.cells #[.int .i64 z, vn, vs] 34)) (.cells #[.int .i64 z, un, us] 34)
    rw [show (w.alloc (.cells #[.int .i64 z, vn, vs] 34)).heap.size = w.heap.size + 1 by simp] at h
    exact h
theorem TT.next {w W V : World} {z : Int} {vn vs un us : Value} (h : TT w W z vn vs un us) (hb : Below W.heap.size W V) : TT w V z vn vs un us :=
  ⟨(hb.block _ (Array.getElem?_eq_some_iff.1 h.a).1).trans h.a, (hb.block _ (Array.getElem?_eq_some_iff.1 h.b).1).trans h.b, nnext h.bl hb⟩
theorem TT.six {w W : World} {z : Int} {vn vs un us : Value} (h : TT w W z vn vs un us) : W.cell? ⟨w.heap.size, 0, none⟩ = some (.int .i64 z) ∧ W.cell? ⟨w.heap.size, 1, none⟩ = some vn ∧ W.cell? ⟨w.heap.size, 2, none⟩ = some vs ∧ W.cell? ⟨w.heap.size + 1, 0, none⟩ = some (.int .i64 z) ∧ W.cell? ⟨w.heap.size + 1, 1, none⟩ = some un ∧ W.cell? ⟨w.heap.size + 1, 2, none⟩ = some us := by
  have h1 := h.a
  have h2 := h.b
  refine ⟨?_, ?_, ?_, ?_, ?_, ?_⟩ <;> simp [World.cell?, h1, h2]

end Go.Proofs.YtoacignhobchbaaGreatDoor

namespace Go.Proofs.YtoacignhobchbaaGreatDoor
open Go.RowKit

/-- the tree and the events under way: two boxes, three rows of the call's own -/
structure RG (W : World) (F : Nat → Prop) (bo be : Nat) (z : Int) (vn vs ve : Value) (ns : List Nd) (ss : List Int) (es : List Ev) : Prop where
  o : W.heap[bo]? = some (.cells #[.int .i64 z, vn, vs] 34 (0, 0))
  v : W.heap[be]? = some (.cells #[ve] 49 (0, 0))
  oe : bo ≠ be
  fo : F bo
  fv : F be
  n : OwnS W 0 vn ns
  s : OwnS W 0 vs ss
  e : OwnS W 0 ve es
  kn : ∀ k, vn.ownBlock = some k → F k ∧ k ≠ bo ∧ k ≠ be ∧ vs.ownBlock ≠ some k ∧ ve.ownBlock ≠ some k
  ks : ∀ k, vs.ownBlock = some k → F k ∧ k ≠ bo ∧ k ≠ be ∧ ve.ownBlock ≠ some k
  ke : ∀ k, ve.ownBlock = some k → F k ∧ k ≠ bo ∧ k ≠ be
section
variable {W V : World} {F : Nat → Prop} {bo be : Nat} {z : Int} {vn vs ve : Value} {ns : List Nd} {ss : List Int} {es : List Ev}
theorem RG.lo (h : RG W F bo be z vn vs ve ns ss es) : bo < W.heap.size := (Array.getElem?_eq_some_iff.1 h.o).1
theorem RG.le (h : RG W F bo be z vn vs ve ns ss es) : be < W.heap.size := (Array.getElem?_eq_some_iff.1 h.v).1
theorem RG.next (h : RG W F bo be z vn vs ve ns ss es) (hb : Below W.heap.size W V) : RG V F bo be z vn vs ve ns ss es :=
  ⟨(hb.block _ h.lo).trans h.o, (hb.block _ h.le).trans h.v, h.oe, h.fo, h.fv, h.n.next hb, h.s.next hb, h.e.next hb, h.kn, h.ks, h.ke⟩
theorem RG.c0 (h : RG W F bo be z vn vs ve ns ss es) : W.cell? ⟨bo, 0, none⟩ = some (.int .i64 z) := by simp [World.cell?, h.o]
theorem RG.c1 (h : RG W F bo be z vn vs ve ns ss es) : W.cell? ⟨bo, 1, none⟩ = some vn := by simp [World.cell?, h.o]
theorem RG.c2 (h : RG W F bo be z vn vs ve ns ss es) : W.cell? ⟨bo, 2, none⟩ = some vs := by simp [World.cell?, h.o]
theorem RG.ce (h : RG W F bo be z vn vs ve ns ss es) : W.cell? ⟨be, 0, none⟩ = some ve := by simp [World.cell?, h.v]
/-- new events -/
theorem RG.ev {ve' : Value} {es' : List Ev} (h : RG W F bo be z vn vs ve ns ss es) (hF : ∀ k, W.heap.size ≤ k → F k) (hg : W.grownBy V ve.ownBlock) (he : OwnS V 0 ve' es') (hl : ve'.ownBlock = ve.ownBlock ∨ ve'.ownBlock = some W.heap.size) :
    RG (V.setCell ⟨be, 0, none⟩ ve') F bo be z vn vs ve' ns ss es' := by
  have hlo := h.lo
  have hle := h.le
  have nbe : some be ≠ ve.ownBlock := fun e => (h.ke be e.symm).2.2 rfl
  have nbo : some bo ≠ ve.ownBlock := fun e => (h.ke bo e.symm).2.1 rfl
  have hk : ∀ k, ve'.ownBlock = some k → F k ∧ k ≠ bo ∧ k ≠ be ∧ vn.ownBlock ≠ some k ∧ vs.ownBlock ≠ some k := by
    intro k hk
    rcases hl with e | e
    · rw [e] at hk
      obtain ⟨h1, h2, h3⟩ := h.ke k hk
      exact ⟨h1, h2, h3, fun hn => (h.kn k hn).2.2.2.2 hk, fun hs => (h.ks k hs).2.2.2 hk⟩
    · rw [e] at hk
      cases hk
      exact ⟨hF _ (Nat.le_refl _), by omega, by omega, fun hn => by have := h.n.low _ hn; omega, fun hs => by have := h.s.low _ hs; omega⟩
  refine ⟨?_, ?_, h.oe, h.fo, h.fv, ?_, ?_, ?_, fun k hn => ⟨(h.kn k hn).1, (h.kn k hn).2.1, (h.kn k hn).2.2.1, (h.kn k hn).2.2.2.1, fun e => (hk k e).2.2.2.1 hn⟩, fun k hs => ⟨(h.ks k hs).1, (h.ks k hs).2.1, (h.ks k hs).2.2.1, fun e => (hk k e).2.2.2.2 hs⟩, fun k he => ⟨(hk k he).1, (hk k he).2.1, (hk k he).2.2.1⟩⟩
  · exact (Below.heap_setCell V ⟨be, 0, none⟩ ve' bo h.oe).trans ((hg.block bo hlo nbo).trans h.o)
  · rw [block_set ve' ((hg.block be hle nbe).trans h.v)]
    rfl
  · exact (h.n.grown hg (fun k hn e => (h.kn k hn).2.2.2.2 e.symm)).other (fun e => (h.kn be e).2.2.1 rfl) _
  · exact (h.s.grown hg (fun k hs e => (h.ks k hs).2.2.2 e.symm)).other (fun e => (h.ks be e).2.2.1 rfl) _
  · exact he.other (fun e => (hk be e).2.2.1 rfl) _
/-- new nodes, in a new row -/
theorem RG.nd {vn' : Value} {ns' : List Nd} (h : RG W F bo be z vn vs ve ns ss es) (hF : ∀ k, W.heap.size ≤ k → F k) (hb : Below W.heap.size W V) (hn : OwnS V W.heap.size vn' ns') : RG (V.setCell ⟨bo, 1, none⟩ vn') F bo be z vn' vs ve ns' ss es := by
  have hlo := h.lo
  have hle := h.le
  have g := h.next hb
  have ha := fun k (hk : vn'.ownBlock = some k) => (show W.heap.size ≤ k by
    rcases hn with ⟨rfl, _⟩ | ⟨q, cap, rfl, h1, _⟩
    · cases hk
    · simp only [Value.ownBlock, Option.some.injEq] at hk; omega)
  refine ⟨?_, (Below.heap_setCell V ⟨bo, 1, none⟩ vn' be (fun e => h.oe e.symm)).trans g.v, h.oe, h.fo, h.fv, (hn.lower (Nat.zero_le _)).other (fun e => by have := ha bo e; omega) _, g.s.other (fun e => (h.ks bo e).2.1 rfl) _, g.e.other (fun e => (h.ke bo e).2.1 rfl) _, fun k hk => ?_, h.ks, h.ke⟩
  · rw [block_set vn' g.o]
    rfl
  · have := ha k hk
    exact ⟨hF k this, by omega, by omega, fun e => by have := h.s.low _ e; omega, fun e => by have := h.e.low _ e; omega⟩
/-- new sessions, in a new row -/
theorem RG.se {vs' : Value} {ss' : List Int} (h : RG W F bo be z vn vs ve ns ss es) (hF : ∀ k, W.heap.size ≤ k → F k) (hb : Below W.heap.size W V) (hs : OwnS V W.heap.size vs' ss') : RG (V.setCell ⟨bo, 2, none⟩ vs') F bo be z vn vs' ve ns ss' es := by
  have hlo := h.lo
  have hle := h.le
  have g := h.next hb
  have ha := fun k (hk : vs'.ownBlock = some k) => (show W.heap.size ≤ k by
    rcases hs with ⟨rfl, _⟩ | ⟨q, cap, rfl, h1, _⟩
    · cases hk
    · simp only [Value.ownBlock, Option.some.injEq] at hk; omega)
  refine ⟨?_, (Below.heap_setCell V ⟨bo, 2, none⟩ vs' be (fun e => h.oe e.symm)).trans g.v, h.oe, h.fo, h.fv, g.n.other (fun e => (h.kn bo e).2.1 rfl) _, (hs.lower (Nat.zero_le _)).other (fun e => by have := ha bo e; omega) _, g.e.other (fun e => (h.ke bo e).2.1 rfl) _, fun k hk => ⟨(h.kn k hk).1, (h.kn k hk).2.1, (h.kn k hk).2.2.1, fun e => by have := ha k e; have := h.n.low k hk; omega, (h.kn k hk).2.2.2.2⟩, fun k hk => ?_, h.ke⟩
  · rw [block_set vs' g.o]
    rfl
  · have := ha k hk
    exact ⟨hF k this, by omega, by omega, fun e => by have := h.e.low _ e; omega⟩
/-- a cell of a node -/
theorem RG.put {g cap l : Nat} {A B : List Nd} {n m : Nd} (h : RG W F bo be z (.slice (some ⟨g, 0, none⟩) l cap) vs ve (A ++ n :: B) ss es) {c : Nat} (hc : c < 9) {v : Value} (hm : ncells m = (ncells n).set c v) :
    RG (W.setCell ⟨g, A.length * 9 + c, none⟩ v) F bo be z (.slice (some ⟨g, 0, none⟩) l cap) vs ve (A ++ m :: B) ss es := by
  obtain ⟨_, hgo, hge, hgs, hgv⟩ := h.kn g rfl
  refine ⟨(Below.heap_setCell W ⟨g, _, none⟩ v bo (fun e => hgo e.symm)).trans h.o, (Below.heap_setCell W ⟨g, _, none⟩ v be (fun e => hge e.symm)).trans h.v, h.oe, h.fo, h.fv, ?_, h.s.other (fun e => hgs e) _, h.e.other (fun e => hgv e) _, h.kn, h.ks, h.ke⟩
  rcases h.n with ⟨h1, _⟩ | ⟨g', cap', h1, h2, h3⟩
  · cases h1
  · simp only [Value.slice.injEq, Option.some.injEq, Addr.mk.injEq, and_true] at h1
    obtain ⟨rfl, rfl, rfl⟩ := h1
    exact .inr ⟨g, cap, by simp, h2, h3.set (c := c) (by exact hc) hm⟩
theorem RG.nrow (h : RG W F bo be z vn vs ve ns ss es) (h0 : ns ≠ []) : ∃ g cap, vn = .slice (some ⟨g, 0, none⟩) ns.length cap ∧ OwnR W g cap ns ∧ g ≠ bo ∧ g ≠ be ∧ F g := by
  rcases h.n with ⟨_, h1⟩ | ⟨g, cap, rfl, _, h3⟩
  · exact absurd h1 h0
  · exact ⟨g, cap, rfl, h3, (h.kn g rfl).2.1, (h.kn g rfl).2.2.1, (h.kn g rfl).1⟩
end
end Go.Proofs.YtoacignhobchbaaGreatDoor
