/-
  What wal.Recover answers: the walks.
  What slices.Delete and slices.Insert of one answer, into a row of the call's own of nodes: the walks.
  What slices.Delete and slices.Insert of one answer, into a row of the call's own of numbers: the walks.
  What a transaction makes of a tree, as plain lists; that good trees stay good. No program is named here.
  A tree under change: what tree.copied and growth's tell and parentChanges do: the walks.
  A tree under change: how a growth lies in memory, which blocks a step may touch; what tell and parentChanges do: the walks.
  What slices.Clone of numbers and tree.begun do: the walks.
  Copies of a tree (aviarykeep.own, aviaryref.CopyTree), tree.New and tree.Get: the walks.
-/
import Derived.Test.YthkggmmalffcdaaGreatDoorSFH
import Derived.Test.YthkggmmalffcdaaGreatDoorSFC
import Derived.Test.YthkggmmalffcdaaGreatDoorShelf
import Derived.Lib.LastIndexByte
import Derived.Lib.QuietBelow
import Derived.Laws.IdiomCopy
import Derived.Lib.AppendZeros
import Derived.Lib.JoinLaws
import Derived.Lib.SliceRun
import Derived.Deep.RegionHeld3
import Derived.BigQuiet
import Derived.Deep.RegionLaw
import Derived.Lib.AppendZerosOnto
import Derived.Lib.Overlaps
import Derived.Laws.Externs
import Derived.Maps.AppendAt
import Derived.Deep.CutRange
namespace Go.Proofs.YthkggmmalffcdaaGreatDoor
open Go.RowKit

/-- blocks of a call that is handed a disk: the disk's, the result's -/
structure RBox (w W : World) (v : Value) : Prop where
  below : Below w.heap.size w W
  d : BoxAt W w.heap.size v
  r : BoxAt W (w.heap.size + 1) (.slice none 0 0)
theorem RBox.next {w W V : World} {v : Value} (h : RBox w W v) (hb : Below W.heap.size W V) : RBox w V v := ⟨below_next2 h.below hb, h.d.next hb, h.r.next hb⟩
theorem RBox.setd {w W : World} {v : Value} (h : RBox w W v) (u : Value) : RBox w (W.setCell ⟨w.heap.size, 0, none⟩ u) u := ⟨h.below.setCell (Nat.le_refl _) u, h.d.set u, h.r.other (by omega) u⟩
theorem RBox.start (w : World) (v : Value) : RBox w ((w.alloc (.cells #[v] 24)).alloc (.cells #[.slice none 0 0] 24)) v := by
  have b1 : Below w.heap.size w (w.alloc (.cells #[v] 24)) := (Below.refl _ _).alloc (Nat.le_refl _) _
  have b2 : Below (w.alloc (.cells #[v] 24)).heap.size (w.alloc (.cells #[v] 24)) ((w.alloc (.cells #[v] 24)).alloc (.cells #[.slice none 0 0] 24)) := (Below.refl _ _).alloc (Nat.le_refl _) _
  refine ⟨below_next2 b1 b2, (BoxAt.new w v).next b2, ?_⟩
  have h := BoxAt.new (w.alloc (.cells #[v] 24)) (.slice none 0 0)
  have hz : (w.alloc (.cells #[v] 24)).heap.size = w.heap.size + 1 := by simp
  rw [hz] at h
  exact h
/-- a call on a disk says E, and hands back a log and a disk -/
def GivesW (f : FuncId) (args : Value → Array Value) (fs : List DF) (ts : List WTxn) (d : List DF) (E : Int) : Prop := ∀ v W, DiskV W v fs → Calls Tryz.prog f (args (.agg #[v])) W fun e w' => ∃ a1 k1 c1 a n c, e = .returned (.tuple #[.slice a1 k1 c1, .agg #[.slice a n c], .int .i64 E]) ∧ Hid (LogV w' (.slice a1 k1 c1) ts) ∧ Hid (DiskV w' (.slice a n c) d) ∧ Below W.heap.size W w'
/-- what reading the log says -/
def GivesS (f : FuncId) (fs : List DF) (s : List UInt8) (E : Int) : Prop := ∀ v W, DiskV W v fs → Calls Tryz.prog f #[.agg #[v], .string ⟨#[108, 111, 103]⟩] W fun e w' => e = .returned (.tuple #[.string ⟨s.toArray⟩, .int .i64 E]) ∧ Below W.heap.size W w'
/-- what scanning bytes says -/
def GivesL (f : FuncId) (s : List UInt8) (ts : List WTxn) (n : Nat) : Prop := ∀ W, Calls Tryz.prog f #[.string ⟨s.toArray⟩] W fun e w' => ∃ v, e = .returned (.tuple #[v, .int .i64 n]) ∧ LogV w' v ts ∧ Below W.heap.size W w'

set_option maxRecDepth 10000 in
set_option maxHeartbeats 1000000 in
theorem wrec_bad (fs : List DF) (E : Int) (CR : GivesS 106 fs [] E) (h7 : E ≠ 7) (h0 : E ≠ 0) : GivesW 63 (fun x => #[x]) fs [] [] E := by
  intro v w hv
  have h7' : (E == 7) = false := by simpa using h7
  have h0' : (E != 0) = true := by simpa using h0
  clear h7 h0
  have HV := hide hv
  obtain ⟨a, n, c, rfl⟩ := disk_slice hv
  clear hv
  go_enter Tryz.func63, Tryz.ntmps63
  go_wp2_with fail
  have X := hide (RBox.start w (.slice a n c))
  generalize (w.alloc (.cells #[.slice a n c] 24)).alloc (.cells #[.slice none 0 0] 24) = W0 at *
  refine (CR _ _ ((unhide HV).next (unhide X).below)).mono ?_
  rintro e w1 ⟨rfl, hb1⟩
  have X1 := (unhide X).next hb1
  have cr := X1.r.c
  have fr := X1.r.f
  have HB := hide (X1.below.setCell (p := ⟨w.heap.size + 1, 0, none⟩) (by show w.heap.size ≤ w.heap.size + 1; omega) (.slice none 0 0))
  clear hb1 X X1 CR HV
  go_wp2_with fail
  exact bodyPost_ret (v := .tuple #[.slice none 0 0, .agg #[.slice none 0 0], .int .i64 E]) (by simp [results, Tryz.results63, go_sem, cr]) rfl ⟨_, _, _, _, _, _, rfl, hide (LogV.nil _), hide (DiskV.nil _), unhide HB⟩

set_option maxRecDepth 10000 in
set_option maxHeartbeats 1000000 in
theorem wrec_gap_any (fs d1 : List DF) (E : Int) (CR : GivesS 106 fs [] 7) (GW : GivesD 71 (fun x => #[x, .string ⟨logN.toArray⟩, .string ⟨(([] : List UInt8)).toArray⟩]) fs d1 E) : GivesW 63 (fun x => #[x]) fs [] d1 E := by
  intro v w hv
  simp only [show logN.toArray = #[108, 111, 103] from rfl] at GW
  have HV := hide hv
  obtain ⟨a, n, c, rfl⟩ := disk_slice hv
  clear hv
  go_enter Tryz.func63, Tryz.ntmps63
  go_wp2_with fail
  have X := hide (RBox.start w (.slice a n c))
  generalize (w.alloc (.cells #[.slice a n c] 24)).alloc (.cells #[.slice none 0 0] 24) = W0 at *
  refine (CR _ _ ((unhide HV).next (unhide X).below)).mono ?_
  rintro e w1 ⟨rfl, hb1⟩
  have X1 := (unhide X).next hb1
  have cd := X1.d.c
  have HX1 := hide X1
  clear hb1 X X1 CR
  go_wp2_with fail
  refine (GW _ _ ((unhide HV).next (unhide HX1).below)).mono ?_
  rintro e w2 ⟨a2, n2, c2, rfl, HD2, hb2⟩
  have hal := (Below.refl w2.heap.size w2).alloc (Nat.le_refl _) (.cells #[.slice a2 n2 c2] 24)
  have X2 := ((unhide HX1).next hb2).next hal
  have cr := X2.r.c
  have fr := X2.r.f
  have cy := (BoxAt.new w2 (.slice a2 n2 c2)).c
  have hz2 := ((unhide HX1).next hb2).r.lt
  have hnz : w.heap.size + 1 ≠ w2.heap.size := by omega
  have HF := hide (And.intro (X2.below.setCell (p := ⟨w.heap.size + 1, 0, none⟩) (by show w.heap.size ≤ w.heap.size + 1; omega) (.slice a2 n2 c2)) (disk_box ((unhide HD2).next hal) X2.r (.slice a2 n2 c2)))
  clear hb2 hal X2 HX1 HD2 GW cd HV
  go_wp2_with fail
  generalize w2.alloc (.cells #[.slice a2 n2 c2] 24) = W2 at *
  go_region
  go_wp2_with fail
  exact bodyPost_ret (v := .tuple #[.slice none 0 0, .agg #[.slice a2 n2 c2], .int .i64 E]) (by simp [results, Tryz.results63, go_sem, cr]) rfl ⟨_, _, _, _, _, _, rfl, hide (LogV.nil _), hide (unhide HF).2.drew, (unhide HF).1.drew⟩

set_option maxRecDepth 10000 in
set_option maxHeartbeats 1000000 in
theorem wrec_there (fs d1 : List DF) (s : List UInt8) (ts : List WTxn) (N : Nat) (CR : GivesS 106 fs s 0) (CS : GivesL 107 s ts N) (GC : GivesD 66 (fun x => #[x, .string ⟨logN.toArray⟩, .int .i64 N]) fs d1 0) : GivesW 63 (fun x => #[x]) fs ts d1 0 := by
  intro v w hv
  simp only [show logN.toArray = #[108, 111, 103] from rfl] at GC
  have HV := hide hv
  obtain ⟨a, n, c, rfl⟩ := disk_slice hv
  clear hv
  go_enter Tryz.func63, Tryz.ntmps63
  go_wp2_with fail
  have X := hide (RBox.start w (.slice a n c))
  generalize (w.alloc (.cells #[.slice a n c] 24)).alloc (.cells #[.slice none 0 0] 24) = W0 at *
  refine (CR _ _ ((unhide HV).next (unhide X).below)).mono ?_
  rintro e w1 ⟨rfl, hb1⟩
  have X1 := (unhide X).next hb1
  have HX1 := hide X1
  clear hb1 X X1 CR
  go_wp2_with fail
  refine (CS _).mono ?_
  rintro e w2 ⟨v2, rfl, hl2, hb2⟩
  have X2 := (unhide HX1).next hb2
  have HL2 := hide hl2
  obtain ⟨al, cl, rfl⟩ := log_slice hl2
  have cd2 := X2.d.c
  have HX2 := hide X2
  clear hb2 hl2 X2 HX1 CS
  go_wp2_with fail
  refine (GC _ _ ((unhide HV).next (unhide HX2).below)).mono ?_
  rintro e w3 ⟨a3, n3, c3, rfl, HD3, hb3⟩
  have hal := (Below.refl w3.heap.size w3).alloc (Nat.le_refl _) (.cells #[.slice a3 n3 c3] 24)
  have X3 := ((unhide HX2).next hb3).next hal
  have cr := X3.r.c
  have fr := X3.r.f
  have cy := (BoxAt.new w3 (.slice a3 n3 c3)).c
  have hz2 := ((unhide HX2).next hb3).r.lt
  have hnz : w.heap.size + 1 ≠ w3.heap.size := by omega
  have HF := hide (And.intro (X3.below.setCell (p := ⟨w.heap.size + 1, 0, none⟩) (by show w.heap.size ≤ w.heap.size + 1; omega) (.slice a3 n3 c3)) (And.intro (disk_box ((unhide HD3).next hal) X3.r (.slice a3 n3 c3)) (log_box (((unhide HL2).next hb3).next hal) X3.r (.slice a3 n3 c3))))
  clear hb3 hal X3 HX2 HD3 HL2 GC cd2 HV
  go_wp2_with fail
  generalize w3.alloc (.cells #[.slice a3 n3 c3] 24) = W3 at *
  go_region
  go_wp2_with fail
  exact bodyPost_ret (v := .tuple #[.slice al ts.length cl, .agg #[.slice a3 n3 c3], .int .i64 0]) (by simp [results, Tryz.results63, go_sem, cr]) rfl ⟨_, _, _, _, _, _, rfl, hide (unhide HF).2.2.drew, hide (unhide HF).2.1.drew, (unhide HF).1.drew⟩
end Go.Proofs.YthkggmmalffcdaaGreatDoor

namespace Go.Proofs.YthkggmmalffcdaaGreatDoor
open Go.RowKit

theorem ninfo0 : (Tryz.prog.info? 81).map (fun i => (i.zero, i.size, i.bytes)) = some (some (.agg #[.string ⟨#[]⟩, .string ⟨#[]⟩, .int .i64 0, .int .i64 0, .int .i64 0, .int .i64 0, .int .i64 0, .int .i64 0, .int .i64 0]), 9, 88) := by kernel_rfl
theorem ninfo : ∃ i0, Tryz.prog.info? 81 = some i0 ∧ i0.zero = some (.agg #[.string ⟨#[]⟩, .string ⟨#[]⟩, .int .i64 0, .int .i64 0, .int .i64 0, .int .i64 0, .int .i64 0, .int .i64 0, .int .i64 0]) ∧ i0.size = 9 ∧ i0.bytes = 88 := by
  obtain ⟨i0, h, e⟩ := Option.map_eq_some_iff.1 ninfo0
  simp only [Prod.mk.injEq] at e
  exact ⟨i0, h, e⟩

end Go.Proofs.YthkggmmalffcdaaGreatDoor

namespace Go.Proofs.YthkggmmalffcdaaGreatDoor
open Go.RowKit

theorem iinfo0 : (Tryz.prog.info? 3).map (fun i => (i.zero, i.size, i.bytes)) = some (some (.int .i64 0), 1, 8) := by kernel_rfl
theorem iinfo : ∃ i0, Tryz.prog.info? 3 = some i0 ∧ i0.zero = some (.int .i64 0) ∧ i0.size = 1 ∧ i0.bytes = 8 := by
  obtain ⟨i0, h, e⟩ := Option.map_eq_some_iff.1 iinfo0
  simp only [Prod.mk.injEq] at e
  exact ⟨i0, h, e⟩

end Go.Proofs.YthkggmmalffcdaaGreatDoor

namespace Go.Proofs.YthkggmmalffcdaaGreatDoor
open Go.RowKit

theorem GoodN.mono {z z' : Int} {ns : List Nd} {ss : List Int} (g : GoodN z ns ss) (h : z ≤ z') : GoodN z' ns ss :=
  ⟨g.few, g.root, g.asc, fun n hn => by
    have k := g.ok n hn
    have := k.mz
    have := k.qz
    exact ⟨k.data, k.path, k.up, k.c0, k.cm, k.cq, by omega, by omega, k.v0, k.v1, k.k0, k.kids, k.own⟩⟩
theorem GoodN.more {z : Int} {ns : List Nd} {ss ss' : List Int} (g : GoodN z ns ss) (h : ∀ n ∈ ns, n.o ≠ 0 → n.o ∈ ss → n.o ∈ ss') : GoodN z ns ss' :=
  ⟨g.few, g.root, g.asc, fun n hn => by
    have k := g.ok n hn
    refine ⟨k.data, k.path, k.up, k.c0, k.cm, k.cq, k.mz, k.qz, k.v0, k.v1, k.k0, k.kids, ?_⟩
    rcases k.own with h' | ⟨h1, h2⟩
    · exact .inl h'
    · by_cases h0 : n.o = 0
      · exact .inl h0
      · exact .inr ⟨h n hn h0 h1, h2⟩⟩
/- a change that leaves all paths -/
/- a node goes -/
/- a node comes -/
/- a node is set -/
end Go.Proofs.YthkggmmalffcdaaGreatDoor

namespace Go.Proofs.YthkggmmalffcdaaGreatDoor
open Go.RowKit
def nzero : Nd := ⟨[], [], 0, 0, 0, 0, 0, 0, 0⟩

end Go.Proofs.YthkggmmalffcdaaGreatDoor

namespace Go.Proofs.YthkggmmalffcdaaGreatDoor
open Go.RowKit

/-- block b is a growth -/
structure Grow (W : World) (F : Nat → Prop) (b : Nat) (z : Int) (vn vs ve : Value) (ns : List Nd) (ss : List Int) (es : List Ev) : Prop where
  blk : W.heap[b]? = some (.cells #[.int .i64 z, vn, vs, ve] 92 (0, 0))
  fb : F b
  n : OwnS W 0 vn ns
  s : OwnS W 0 vs ss
  e : OwnS W 0 ve es
  fn : ∀ k, vn.ownBlock = some k → F k ∧ k ≠ b
  fs : ∀ k, vs.ownBlock = some k → F k ∧ k ≠ b
  fe : ∀ k, ve.ownBlock = some k → F k ∧ k ≠ b
  an : ∀ k, vn.ownBlock = some k → vs.ownBlock ≠ some k ∧ ve.ownBlock ≠ some k
  asn : ∀ k, vs.ownBlock = some k → ve.ownBlock ≠ some k
theorem Grow.lt {W : World} {F : Nat → Prop} {b : Nat} {z : Int} {vn vs ve : Value} {ns : List Nd} {ss : List Int} {es : List Ev} (h : Grow W F b z vn vs ve ns ss es) : b < W.heap.size := (Array.getElem?_eq_some_iff.1 h.blk).1
theorem Grow.next {W V : World} {F : Nat → Prop} {b : Nat} {z : Int} {vn vs ve : Value} {ns : List Nd} {ss : List Int} {es : List Ev} (h : Grow W F b z vn vs ve ns ss es) (hb : Below W.heap.size W V) : Grow V F b z vn vs ve ns ss es :=
  ⟨(hb.block _ h.lt).trans h.blk, h.fb, h.n.next hb, h.s.next hb, h.e.next hb, h.fn, h.fs, h.fe, h.an, h.asn⟩
theorem Grow.drew {W : World} {F : Nat → Prop} {b : Nat} {z : Int} {vn vs ve : Value} {ns : List Nd} {ss : List Int} {es : List Ev} (h : Grow W F b z vn vs ve ns ss es) : Grow W.drew F b z vn vs ve ns ss es := h.next (Below.refl _ _).drew
theorem Grow.c0 {W : World} {F : Nat → Prop} {b : Nat} {z : Int} {vn vs ve : Value} {ns : List Nd} {ss : List Int} {es : List Ev} (h : Grow W F b z vn vs ve ns ss es) : W.cell? ⟨b, 0, none⟩ = some (.int .i64 z) := by simp [World.cell?, h.blk]
theorem Grow.c1 {W : World} {F : Nat → Prop} {b : Nat} {z : Int} {vn vs ve : Value} {ns : List Nd} {ss : List Int} {es : List Ev} (h : Grow W F b z vn vs ve ns ss es) : W.cell? ⟨b, 1, none⟩ = some vn := by simp [World.cell?, h.blk]
theorem Grow.c2 {W : World} {F : Nat → Prop} {b : Nat} {z : Int} {vn vs ve : Value} {ns : List Nd} {ss : List Int} {es : List Ev} (h : Grow W F b z vn vs ve ns ss es) : W.cell? ⟨b, 2, none⟩ = some vs := by simp [World.cell?, h.blk]
theorem Grow.c3 {W : World} {F : Nat → Prop} {b : Nat} {z : Int} {vn vs ve : Value} {ns : List Nd} {ss : List Int} {es : List Ev} (h : Grow W F b z vn vs ve ns ss es) : W.cell? ⟨b, 3, none⟩ = some ve := by simp [World.cell?, h.blk]
theorem Grow.fz {W : World} {F : Nat → Prop} {b : Nat} {z : Int} {vn vs ve : Value} {ns : List Nd} {ss : List Int} {es : List Ev} (h : Grow W F b z vn vs ve ns ss es) (j : Nat) : W.frozen? ⟨b, j, none⟩ = false := by simp [World.frozen?, h.blk]
/-- new nodes -/
theorem Grow.nd {W V : World} {F : Nat → Prop} {b : Nat} {z : Int} {vn vs ve vn' : Value} {ns ns' : List Nd} {ss : List Int} {es : List Ev} (h : Grow W F b z vn vs ve ns ss es) (hF : ∀ k, W.heap.size ≤ k → F k) (hg : W.grownBy V vn.ownBlock) (hn' : OwnS V 0 vn' ns') (hl : vn'.ownBlock = vn.ownBlock ∨ ∃ k, W.heap.size ≤ k ∧ vn'.ownBlock = some k) :
    Grow (V.setCell ⟨b, 1, none⟩ vn') F b z vn' vs ve ns' ss es := by
  have hbn : some b ≠ vn.ownBlock := fun e => (h.fn b e.symm).2 rfl
  have hb := h.lt
  have hne : ∀ k, vn'.ownBlock = some k → F k ∧ k ≠ b ∧ vs.ownBlock ≠ some k ∧ ve.ownBlock ≠ some k := by
    intro k hk
    rcases hl with e | ⟨j, hj, e⟩
    · rw [e] at hk
      exact ⟨(h.fn k hk).1, (h.fn k hk).2, (h.an k hk).1, (h.an k hk).2⟩
    · rw [e] at hk
      cases hk
      exact ⟨hF _ hj, by omega, fun hs => by have := h.s.low _ hs; omega, fun hs => by have := h.e.low _ hs; omega⟩
  refine ⟨?_, h.fb, ?_, ?_, ?_, fun k hk => ⟨(hne k hk).1, (hne k hk).2.1⟩, h.fs, h.fe, fun k hk => (hne k hk).2.2, h.asn⟩
  · rw [block_set vn' ((hg.block b hb hbn).trans h.blk)]
    rfl
  · exact hn'.other (fun e => (hne b e).2.1 rfl) _
  · exact (h.s.grown hg (fun k hk e => (h.an k e.symm).1 hk)).other (fun e => (h.fs b e).2 rfl) _
  · exact (h.e.grown hg (fun k hk e => (h.an k e.symm).2 hk)).other (fun e => (h.fe b e).2 rfl) _
/-- a cell of a node -/
theorem Grow.put {W : World} {F : Nat → Prop} {b : Nat} {z : Int} {g cap : Nat} {vs ve : Value} {A B : List Nd} {n m : Nd} {ss : List Int} {es : List Ev} {l : Nat} (h : Grow W F b z (.slice (some ⟨g, 0, none⟩) l cap) vs ve (A ++ n :: B) ss es) {c : Nat} (hc : c < 9) {v : Value} (hm : ncells m = (ncells n).set c v) :
    Grow (W.setCell ⟨g, A.length * 9 + c, none⟩ v) F b z (.slice (some ⟨g, 0, none⟩) l cap) vs ve (A ++ m :: B) ss es := by
  have hgb := (h.fn g rfl).2
  refine ⟨(Below.heap_setCell W ⟨g, _, none⟩ v b (fun e => hgb e.symm)).trans h.blk, h.fb, ?_, ?_, ?_, h.fn, h.fs, h.fe, h.an, h.asn⟩
  · rcases h.n with ⟨h1, _⟩ | ⟨g', cap', h1, h2, h3⟩
    · cases h1
    · simp only [Value.slice.injEq, Option.some.injEq, Addr.mk.injEq, and_true] at h1
      obtain ⟨rfl, rfl, rfl⟩ := h1
      refine .inr ⟨g, cap, by simp, h2, ?_⟩
      exact h3.set (c := c) (by exact hc) hm
  · exact h.s.other (fun e => (h.an g rfl).1 e) _
  · exact h.e.other (fun e => (h.an g rfl).2 e) _
/- tell -/
end Go.Proofs.YthkggmmalffcdaaGreatDoor

namespace Go.Proofs.YthkggmmalffcdaaGreatDoor
open Go.RowKit
set_option maxRecDepth 10000 in

set_option maxHeartbeats 2000000 in
theorem iclone_some (a : Addr) (cap : Nat) (ss : List Int) (w : World) (hl : ss.length ≤ 2147483647) (hc : ∀ j u, (cellsL ss)[j]? = some u → w.cell? (a.add j) = some u) :
    Calls Tryz.prog 42 #[.slice (some a) ss.length cap] w fun e w' => ∃ v', e = .returned v' ∧ OwnS w' w.heap.size v' ss ∧ Below w.heap.size w w' := by
  have q22 : ∀ (w : World) (a : Option Addr) (n c n' c' : Nat), (binOp .eql 29 (.slice a n c) (.slice none n' c')).run Tryz.prog w = .ok (.bool a.isNone) w := fun w a n c n' c' => Lib.run_eql_slice_nil w _ _ a n c n' c' Tryz.underlying29
  have H : Hid (∀ j u, (cellsL ss)[j]? = some u → w.cell? (a.add j) = some u) := hc
  clear hc
  obtain ⟨i0, hi0, hz0, hz1, hz2⟩ := iinfo
  go_enter Tryz.func42, Tryz.ntmps42
  go_wp2_with (at_builtin; refine wpList_append_own _ rfl _ _ 29 rfl w.heap.size 3 i0 _ 1 8 Tryz.underlying29 hi0 hz0 hz1 hz2 rfl (by decide) _ _ _ rfl (World.ownsRow_made w #[] 0 (Nat.le_refl _) (Nat.zero_le _) (by simp)) a ss.length cap (cellsL ss) rfl ?qc1 ?qc2 ?qc3 ?qc4 ?qc5 ?qc6 ?_)
  case qc1 => exact (cellsI_length ss).trans (Nat.mul_one _).symm
  case qc2 =>
    intro j u hj
    exact Lib.cell?_alloc_some _ (H.out j u hj)
  case qc3 => exact cellsL_one ss
  case qc4 => simp only [maxLen]; omega
  case qc5 => omega
  case qc6 => simp
  intro v' w1 hown hgrow hnil
  go_wp2
  go_ret
  refine ⟨v', rfl, OwnS.of_row hown, ?_⟩
  exact ((Below.refl _ w).alloc (Nat.le_refl _) _).grown hgrow (by simp) (by intro k hk; simp [Value.ownBlock] at hk; omega)
set_option maxRecDepth 10000 in
set_option maxHeartbeats 400000 in
theorem iclone_nil (n c : Nat) (w : World) :
    Calls Tryz.prog 42 #[.slice none n c] w fun e w' => e = .returned (.slice none 0 0) ∧ w' = w := by
  have q22 : ∀ (w : World) (a : Option Addr) (n c n' c' : Nat), (binOp .eql 29 (.slice a n c) (.slice none n' c')).run Tryz.prog w = .ok (.bool a.isNone) w := fun w a n c n' c' => Lib.run_eql_slice_nil w _ _ a n c n' c' Tryz.underlying29
  go_enter Tryz.func42, Tryz.ntmps42
  go_wp2
  go_ret
  exact ⟨rfl, rfl⟩
theorem iclone_any (v : Value) (ss : List Int) (w : World) (hv : SeqV w v ss) (hl : ss.length ≤ 2147483647) :
    Calls Tryz.prog 42 #[v] w fun e w' => ∃ v', e = .returned v' ∧ OwnS w' w.heap.size v' ss ∧ Below w.heap.size w w' := by
  rcases hv with ⟨a, cap, rfl, rfl, _⟩ | ⟨b, off, cap, rfl, _, _, hb, _, hr⟩
  · cases a with
    | none => exact (iclone_nil 0 cap w).mono fun e w' ⟨he, hw⟩ => ⟨_, he, .inl ⟨rfl, rfl⟩, by rw [hw]; exact Below.refl _ _⟩
    | some a => exact iclone_some a cap [] w (by simp) (fun j u h => by simp [cellsL_nil] at h)
  · exact iclone_some ⟨b, off, none⟩ cap ss w hl (fun j u h => by rw [Addr.add_lit]; exact hr j u h)

end Go.Proofs.YthkggmmalffcdaaGreatDoor

namespace Go.Proofs.YthkggmmalffcdaaGreatDoor
open Go.RowKit

/- append(nil, l...) -/
theorem run_copyN (W : World) (ty : TypeId) (v : Value) (xs : List Nd) (hv : SeqV W v xs) (hl : xs.length * 88 ≤ 140737488355328) :
    ∃ v' w', (Builtin.append_ #[28, 28] ty #[.slice none 0 0, v]).run Tryz.prog W = .ok v' w' ∧ OwnS w' W.heap.size v' xs ∧ W.grownBy w' none := by
  obtain ⟨i0, hi0, hz0, hz1, hz2⟩ := ninfo
  have main : ∀ (a : Addr) (cap : Nat), v = .slice (some a) xs.length cap → (∀ j u, (cellsL xs)[j]? = some u → W.cell? (a.add j) = some u) →
      ∃ v' w', (Builtin.append_ #[28, 28] ty #[.slice none 0 0, v]).run Tryz.prog W = .ok v' w' ∧ OwnS w' W.heap.size v' xs ∧ W.grownBy w' none := by
    intro a cap e hc
    subst e
    obtain ⟨v', w', h1, h2, h3, _⟩ := run_append_own (P := Tryz.prog) W W.heap.size 28 ty 81 i0 _ 9 88 Tryz.underlying28 hi0 hz0 hz1 hz2 rfl (by decide) (.slice none 0 0) 0 [] (World.ownsRow_nil _ _ _ _) a xs.length cap (cellsL xs) (cellsL_length xs) hc (cellsL_one xs)
      (by simp only [maxLen]; omega) (by omega) (Nat.le_refl _)
    refine ⟨v', w', h1, OwnS.of_row (by simp only [List.nil_append, Nat.zero_add] at h2; exact h2), h3⟩
  rcases hv with ⟨a, cap, rfl, rfl, _⟩ | ⟨b, off, cap, rfl, _, _, _, _, hr⟩
  · cases a with
    | none =>
      refine ⟨.slice none 0 0, W, ?_, .inl ⟨rfl, rfl⟩, ⟨rfl, rfl, rfl, Nat.le_refl _, fun _ _ _ => rfl⟩⟩
      simp [Builtin.append_, run_underlying Tryz.underlying28, sizeOf, typeInfo, hi0, Builtin.lenOf, Builtin.firstCells]
    | some a => exact main a cap rfl (fun j u h => by simp [cellsL] at h)
  · exact main ⟨b, off, none⟩ cap rfl (fun j u h => by rw [Addr.add_lit]; exact hr j u h)
theorem wpList_copyN {w : World} {ops : Array Oper} {rest : List Oper} {o : Oper} {a : Act} {Q : Exit → Act → World → Prop} (hgd : Region.wanted o (yielded ops a.tmps) = true) (s x : Operand)
    (ho : o.op = .call { callee := .builtin .append, args := #[s, x], argTypes := #[28, 28] })
    (hs : a.eval s = .slice none 0 0) (v : Value) (hx : a.eval x = v) (xs : List Nd) (hv : SeqV w v xs) (hl : xs.length * 88 ≤ 140737488355328)
    (h : ∀ v' w', OwnS w' w.heap.size v' xs → w.grownBy w' none → wpList Tryz.prog ops Q rest (a.put o.dst v') w') : wpList Tryz.prog ops Q (o :: rest) a w := by
  obtain ⟨v', w', hr, h2, h3⟩ := run_copyN w o.type v xs hv hl
  refine wpList_step fun K hK => ?_
  rw [if_pos hgd]
  unfold Oper.wp execOp
  simp only [ho, resolve, invoke, builtin, Sem.run_bind, Sem.run_pure, Result.andThen_ok, List.map_toArray, List.map_cons, List.map_nil, hs, hx, hr]
  exact hK _ _ (h v' w' h2 h3)
theorem run_copyI (W : World) (ty : TypeId) (v : Value) (xs : List Int) (hv : SeqV W v xs) (hl : xs.length * 8 ≤ 140737488355328) :
    ∃ v' w', (Builtin.append_ #[29, 29] ty #[.slice none 0 0, v]).run Tryz.prog W = .ok v' w' ∧ OwnS w' W.heap.size v' xs ∧ W.grownBy w' none := by
  obtain ⟨i0, hi0, hz0, hz1, hz2⟩ := iinfo
  have main : ∀ (a : Addr) (cap : Nat), v = .slice (some a) xs.length cap → (∀ j u, (cellsL xs)[j]? = some u → W.cell? (a.add j) = some u) →
      ∃ v' w', (Builtin.append_ #[29, 29] ty #[.slice none 0 0, v]).run Tryz.prog W = .ok v' w' ∧ OwnS w' W.heap.size v' xs ∧ W.grownBy w' none := by
    intro a cap e hc
    subst e
    obtain ⟨v', w', h1, h2, h3, _⟩ := run_append_own (P := Tryz.prog) W W.heap.size 29 ty 3 i0 _ 1 8 Tryz.underlying29 hi0 hz0 hz1 hz2 rfl (by decide) (.slice none 0 0) 0 [] (World.ownsRow_nil _ _ _ _) a xs.length cap (cellsL xs) (cellsL_length xs) hc (cellsL_one xs)
      (by simp only [maxLen]; omega) (by omega) (Nat.le_refl _)
    refine ⟨v', w', h1, OwnS.of_row (by simp only [List.nil_append, Nat.zero_add] at h2; exact h2), h3⟩
  rcases hv with ⟨a, cap, rfl, rfl, _⟩ | ⟨b, off, cap, rfl, _, _, _, _, hr⟩
  · cases a with
    | none =>
      refine ⟨.slice none 0 0, W, ?_, .inl ⟨rfl, rfl⟩, ⟨rfl, rfl, rfl, Nat.le_refl _, fun _ _ _ => rfl⟩⟩
      simp [Builtin.append_, run_underlying Tryz.underlying29, sizeOf, typeInfo, hi0, Builtin.lenOf, Builtin.firstCells]
    | some a => exact main a cap rfl (fun j u h => by simp [cellsL] at h)
  · exact main ⟨b, off, none⟩ cap rfl (fun j u h => by rw [Addr.add_lit]; exact hr j u h)
theorem wpList_copyI {w : World} {ops : Array Oper} {rest : List Oper} {o : Oper} {a : Act} {Q : Exit → Act → World → Prop} (hgd : Region.wanted o (yielded ops a.tmps) = true) (s x : Operand)
    (ho : o.op = .call { callee := .builtin .append, args := #[s, x], argTypes := #[29, 29] })
    (hs : a.eval s = .slice none 0 0) (v : Value) (hx : a.eval x = v) (xs : List Int) (hv : SeqV w v xs) (hl : xs.length * 8 ≤ 140737488355328)
    (h : ∀ v' w', OwnS w' w.heap.size v' xs → w.grownBy w' none → wpList Tryz.prog ops Q rest (a.put o.dst v') w') : wpList Tryz.prog ops Q (o :: rest) a w := by
  obtain ⟨v', w', hr, h2, h3⟩ := run_copyI w o.type v xs hv hl
  refine wpList_step fun K hK => ?_
  rw [if_pos hgd]
  unfold Oper.wp execOp
  simp only [ho, resolve, invoke, builtin, Sem.run_bind, Sem.run_pure, Result.andThen_ok, List.map_toArray, List.map_cons, List.map_nil, hs, hx, hr]
  exact hK _ _ (h v' w' h2 h3)
/-- a tree's box at q, a box for the answer behind it -/
structure OB (w W : World) (z : Int) (vn vs : Value) : Prop where
  t : W.heap[w.heap.size]? = some (.cells #[.int .i64 z, vn, vs] 31 (0, 0))
  r : W.heap[w.heap.size + 1]? = some (.cells #[.int .i64 0, .slice none 0 0, .slice none 0 0] 31 (0, 0))
  b : Below w.heap.size w W
theorem OB.new (w : World) (z : Int) (vn vs : Value) : OB w ((w.alloc (.cells #[.int .i64 z, vn, vs] 31)).alloc (.cells #[.int .i64 0, .slice none 0 0, .slice none 0 0] 31)) z vn vs := by
  refine ⟨?_, ?_, nnext (allocB _ _) (allocB _ _)⟩
  · rw [(allocB _ _).block _ (by simp)]
    exact heap_alloc_new w _
  · have h := heap_alloc_new (w.alloc (.cells #[.int .i64 z, vn, vs] 31)) (.cells #[.int .i64 0, .slice none 0 0, .slice none 0 0] 31)
    rw [show (w.alloc (.cells #[.int .i64 z, vn, vs] 31)).heap.size = w.heap.size + 1 by simp] at h
    exact h
theorem OB.lt {w W : World} {z : Int} {vn vs : Value} (h : OB w W z vn vs) : w.heap.size + 1 < W.heap.size := (Array.getElem?_eq_some_iff.1 h.r).1
theorem OB.next {w W V : World} {z : Int} {vn vs : Value} (h : OB w W z vn vs) (hb : Below W.heap.size W V) : OB w V z vn vs := by
  have := h.lt
  exact ⟨(hb.block _ (by omega)).trans h.t, (hb.block _ (by omega)).trans h.r, nnext h.b hb⟩
theorem OB.drew {w W : World} {z : Int} {vn vs : Value} (h : OB w W z vn vs) : OB w W.drew z vn vs := h.next (Below.refl _ _).drew
theorem grown_below {W V : World} (h : W.grownBy V none) : Below W.heap.size W V := ⟨h.os, h.tape, h.output, h.size, fun k hk => h.block k hk (by simp)⟩
theorem OB.grown {w W V : World} {z : Int} {vn vs : Value} (h : OB w W z vn vs) (hg : W.grownBy V none) : OB w V z vn vs := h.next (grown_below hg)
theorem OB.cells {w W : World} {z : Int} {vn vs : Value} (h : OB w W z vn vs) : W.cell? ⟨w.heap.size, 0, none⟩ = some (.int .i64 z) ∧ W.cell? ⟨w.heap.size, 1, none⟩ = some vn ∧ W.cell? ⟨w.heap.size, 2, none⟩ = some vs ∧ W.frozen? ⟨w.heap.size, 1, none⟩ = false ∧ W.frozen? ⟨w.heap.size, 2, none⟩ = false := by
  have h1 := h.t
  refine ⟨?_, ?_, ?_, ?_, ?_⟩ <;> simp [World.cell?, World.frozen?, h1]
theorem OB.res {w W : World} {z : Int} {vn vs : Value} (h : OB w W z vn vs) : W.cell? ⟨w.heap.size + 1, 0, none⟩ = some (.int .i64 0) ∧ W.cell? ⟨w.heap.size + 1, 1, none⟩ = some (.slice none 0 0) ∧ W.cell? ⟨w.heap.size + 1, 2, none⟩ = some (.slice none 0 0) ∧ W.frozen? ⟨w.heap.size + 1, 0, none⟩ = false ∧ W.frozen? ⟨w.heap.size + 1, 1, none⟩ = false ∧ W.frozen? ⟨w.heap.size + 1, 2, none⟩ = false := by
  have h1 := h.r
  refine ⟨?_, ?_, ?_, ?_, ?_, ?_⟩ <;> simp [World.cell?, World.frozen?, h1]
theorem OB.put {w W : World} {z : Int} {vn vs : Value} (h : OB w W z vn vs) (v : Value) (c : Nat) (vn' vs' : Value) (hc : (#[.int .i64 z, vn, vs] : Array Value).set! c v = #[.int .i64 z, vn', vs']) : OB w (W.setCell ⟨w.heap.size, c, none⟩ v) z vn' vs' := by
  refine ⟨?_, (Below.heap_setCell _ _ _ _ (by simp)).trans h.r, h.b.setCell (by simp) _⟩
  rw [block_set v h.t, ← hc]
  simp
/-- copied, but for the answer -/
def OwnQ (w : World) (z : Int) (ns : List Nd) (ss : List Int) (wx : World) : Prop :=
  ∃ an cn ai ci, OB w wx z (.slice an ns.length cn) (.slice ai ss.length ci) ∧ OwnS wx (w.heap.size + 2) (.slice an ns.length cn) ns ∧ OwnS wx (w.heap.size + 2) (.slice ai ss.length ci) ss
theorem OwnQ.next {w W V : World} {z : Int} {ns : List Nd} {ss : List Int} (h : OwnQ w z ns ss W) (hb : Below W.heap.size W V) : OwnQ w z ns ss V := by
  obtain ⟨an, cn, ai, ci, h1, h2, h3⟩ := h
  exact ⟨an, cn, ai, ci, h1.next hb, h2.next hb, h3.next hb⟩
/-- what a copy gives -/
def GivesT (w : World) (t : Tr) (e : Ending) (w' : World) : Prop :=
  ∃ vn vs, e = .returned (.agg #[.int .i64 t.z, vn, vs]) ∧ OwnS w' w.heap.size vn t.ns ∧ OwnS w' w.heap.size vs t.ss ∧ Below w.heap.size w w'
theorem gives_copy {w W : World} {t : Tr} {an ai : Option Addr} {cn ci : Nat} {v0 v1 v2 : Value} (h : OB w W t.z (.slice an t.ns.length cn) (.slice ai t.ss.length ci)) (hn : OwnS W (w.heap.size + 2) (.slice an t.ns.length cn) t.ns) (hs : OwnS W (w.heap.size + 2) (.slice ai t.ss.length ci) t.ss) :
    GivesT w t (.returned (.agg #[.int .i64 t.z, .slice an t.ns.length cn, .slice ai t.ss.length ci])) (((W.setCell ⟨w.heap.size + 1, 0, none⟩ v0).setCell ⟨w.heap.size + 1, 1, none⟩ v1).setCell ⟨w.heap.size + 1, 2, none⟩ v2) := by
  have no : ∀ {α : Type} [Lay α] {v : Value} {xs : List α}, OwnS W (w.heap.size + 2) v xs → v.ownBlock ≠ some (w.heap.size + 1) := by
    intro α _ v xs ho e
    rcases ho with ⟨rfl, _⟩ | ⟨g, cap, rfl, hB, _⟩
    · cases e
    · simp [Value.ownBlock] at e; omega
  exact ⟨_, _, rfl, (((hn.lower (by omega)).other (no hn) _).other (no hn) _).other (no hn) _, (((hs.lower (by omega)).other (no hs) _).other (no hs) _).other (no hs) _, ((h.b.setCell (by simp) _).setCell (by simp) _).setCell (by simp) _⟩

set_option maxRecDepth 20000 in
set_option maxHeartbeats 2000000 in
theorem rcopyT_any (t : Tr) (vn vs : Value) (w : World) (hn : SeqV w vn t.ns) (hs : SeqV w vs t.ss) (hl : t.ns.length * 88 ≤ 140737488355328) (hls : t.ss.length * 8 ≤ 140737488355328) :
    Calls Tryz.prog 19 #[.agg #[.int .i64 t.z, vn, vs]] w (GivesT w t) := by
  have HN := hide (fun W (hW : Below w.heap.size w W) => hn.next hW)
  have HS := hide (fun W (hW : Below w.heap.size w W) => hs.next hW)
  obtain ⟨na, nc, rfl⟩ := seq_slice hn
  obtain ⟨sa, sc, rfl⟩ := seq_slice hs
  have O0 := hide (OB.new w t.z (.slice na t.ns.length nc) (.slice sa t.ss.length sc))
  clear hn hs
  go_enter Tryz.func19, Tryz.ntmps19
  go_wp2_with (at_builtin; refine wpList_copyN (by kernel_rfl) _ _ rfl rfl (.slice na t.ns.length nc) rfl t.ns (unhide HN _ (unhide O0).b) hl ?_)
  intro vN wN ho hg
  have ON := hide ((unhide O0).grown hg)
  have GN := hide (ho.lower (C := w.heap.size + 2) (by simp))
  obtain ⟨an, cn, rfl, _⟩ := ho.slice
  have q1 := (unhide ON).put (.slice an t.ns.length cn) 1 _ _ rfl
  have GN1 := hide ((unhide GN).other (a := ⟨w.heap.size, 1, none⟩) (by
    intro e
    rcases unhide GN with ⟨h, _⟩ | ⟨g, cap, h, hB, _⟩
    · rw [h] at e; cases e
    · rw [h] at e; simp [Value.ownBlock] at e; omega) (.slice an t.ns.length cn))
  have HO1 := hide q1
  obtain ⟨n0, n1, n2, n3, n4⟩ := (unhide ON).cells
  obtain ⟨m0, m1, m2, m3, m4⟩ := q1.cells
  clear ho hg q1
  go_wp2_with (at_builtin; refine wpList_copyI (by kernel_rfl) _ _ rfl rfl (.slice sa t.ss.length sc) rfl t.ss (unhide HS _ (unhide HO1).b) hls ?_)
  intro vI wI ho hg
  have OI := (unhide HO1).grown hg
  have SI := (unhide ON).lt
  have GI := ho.lower (C := w.heap.size + 2) SI
  have GN2 := (unhide GN1).next (grown_below hg)
  obtain ⟨ai, ci, rfl, _⟩ := ho.slice
  have nI : (Value.slice ai t.ss.length ci).ownBlock ≠ some w.heap.size := by
    intro e
    rcases GI with ⟨h, _⟩ | ⟨g, cap, h, hB, _⟩
    · rw [h] at e; cases e
    · rw [h] at e; simp [Value.ownBlock] at e; omega
  have nN : (Value.slice an t.ns.length cn).ownBlock ≠ some w.heap.size := by
    intro e
    rcases GN2 with ⟨h, _⟩ | ⟨g, cap, h, hB, _⟩
    · rw [h] at e; cases e
    · rw [h] at e; simp [Value.ownBlock] at e; omega
  have Q : Hid (OwnQ w t.z t.ns t.ss (wI.setCell ⟨w.heap.size, 2, none⟩ (.slice ai t.ss.length ci))) := ⟨an, cn, ai, ci, OI.put _ 2 _ _ rfl, GN2.other nN _, GI.other nI _⟩
  obtain ⟨i0, i1, i2, i3, i4⟩ := OI.cells
  clear ho hg GI GN2 nI nN OI HN HS O0 ON GN GN1 HO1
  go_upto_region 3 with fail
  generalize hwq : wI.setCell ⟨w.heap.size, 2, none⟩ (.slice ai t.ss.length ci) = wq at *
  · have hq := Q
    clear hwq Q
    obtain ⟨an, cn, ai, ci, q, qn, qs⟩ := unhide hq
    obtain ⟨c0, c1, c2, _, _⟩ := q.cells
    obtain ⟨r0, r1, r2, f0, f1, f2⟩ := q.res
    have FIN := hide (fun (v0 v1 v2 : Value) => gives_copy (v0 := v0) (v1 := v1) (v2 := v2) (t := t) q qn qs)
    have hne : w.heap.size ≠ w.heap.size + 1 := by omega
    clear q qn qs hq
    go_wp2_with fail
    exact bodyPost_ret (v := .agg #[.int .i64 t.z, .slice an t.ns.length cn, .slice ai t.ss.length ci]) (by simp [results, Tryz.results19, go_sem, r0, r1, r2]) rfl (unhide FIN _ _ _)

/- New, Get -/
theorem one_root (w : World) : OwnS (w.alloc (.cells #[.string ⟨#[47]⟩, .string ⟨#[]⟩, .int .i64 0, .int .i64 0, .int .i64 0, .int .i64 0, .int .i64 0, .int .i64 0, .int .i64 0] 81)) w.heap.size (.slice (some ⟨w.heap.size, 0, none⟩) 1 1) [nroot] :=
  .inr ⟨w.heap.size, 1, rfl, Nat.le_refl _, [], by rw [heap_alloc_new]; rfl, by decide, by decide, by decide⟩
set_option maxRecDepth 20000 in
set_option maxHeartbeats 1000000 in
theorem tnew_any (w : World) : Calls Tryz.prog 65 #[] w (GivesT w trNew) := by
  have H : Hid (GivesT w trNew (.returned (.agg #[.int .i64 0, .slice (some ⟨w.heap.size + 1, 0, none⟩) 1 1, .slice none 0 0])) ((w.alloc (.cells #[.int .i64 0, .slice (some ⟨w.heap.size + 1, 0, none⟩) 1 1, .slice none 0 0] 31)).alloc (.cells #[.string ⟨#[47]⟩, .string ⟨#[]⟩, .int .i64 0, .int .i64 0, .int .i64 0, .int .i64 0, .int .i64 0, .int .i64 0, .int .i64 0] 81))) := by
    have h := one_root (w.alloc (.cells #[.int .i64 0, .slice (some ⟨w.heap.size + 1, 0, none⟩) 1 1, .slice none 0 0] 31))
    rw [show (w.alloc (.cells #[.int .i64 0, .slice (some ⟨w.heap.size + 1, 0, none⟩) 1 1, .slice none 0 0] 31)).heap.size = w.heap.size + 1 by simp] at h
    exact ⟨_, _, rfl, h.lower (by omega), .inl ⟨rfl, rfl⟩, nnext (allocB _ _) (allocB _ _)⟩
  go_enter Tryz.func65, Tryz.ntmps65
  go_wp2_with fail
  exact bodyPost_ret (v := .agg #[.int .i64 0, .slice (some ⟨w.heap.size + 1, 0, none⟩) 1 1, .slice none 0 0]) (by simp [results, Tryz.results65, go_sem]) rfl (unhide H)
end Go.Proofs.YthkggmmalffcdaaGreatDoor
