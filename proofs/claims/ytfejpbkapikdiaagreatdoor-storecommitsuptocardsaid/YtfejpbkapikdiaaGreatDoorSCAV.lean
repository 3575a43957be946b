/-
  A disk as an argument: opened into its files; what its weights say of their lengths.
  A transaction as an argument: opened into its seven fields, and read again.
  A tree as an argument: opened into its nodes and sessions; what its weights say of their lengths.
  Lists of watches and of events, and one watch, as arguments: opened into plain lists; what their weights and their bulk say of their lengths.
  A log as an argument (beside trees): opened into its transactions; what its weights say of their lengths.
  A server as an argument: opened into its parts; what its bulk says of their lengths.
  What a server's bulk says of what Commit asks.
-/
import Derived.Test.YtfejpbkapikdiaaGreatDoorSCG
import Derived.ProofKit
import Derived.OpenShut
import Derived.SizedLaws
import Derived.Deep.Slices
import Derived.Carry
import Derived.Test.YtfejpbkapikdiaaGreatDoorSCK
import Derived.Test.YtfejpbkapikdiaaGreatDoorSCQ
import Derived.Test.YtfejpbkapikdiaaGreatDoorSCC
import Derived.Test.YtfejpbkapikdiaaGreatDoorRows
import Derived.Test.YtfejpbkapikdiaaGreatDoorSCL
import Derived.Test.YtfejpbkapikdiaaGreatDoorSCAT
import Derived.Test.YtfejpbkapikdiaaGreatDoorSCAU
namespace Go.Proofs.YtfejpbkapikdiaaGreatDoor
open Go.ChangeShapes Go.WideShapes Go.ChangeAt Go.RowKit Go.ChangeMaps

theorem cellsStr1 : Tryz.prog.cellsOf 9 = 1 := by kernel_rfl
theorem cellsFile : Tryz.prog.cellsOf 67 = 3 := by kernel_rfl
theorem cellsSl : Tryz.prog.cellsOf 22 = 1 := by kernel_rfl
theorem cellsDisk : Tryz.prog.cellsOf 24 = 1 := by kernel_rfl
theorem list_of1 (s : ByteArray) : ∃ l : List UInt8, s = ⟨l.toArray⟩ := ⟨s.data.toList, rfl⟩

section
variable {H : Type} {enc : TypeId × Value → H} {W : World} {base : Nat} {spare : Nat → Bool} {held : Bool}
def fileD (f : DF) : DataW H := .agg [.lit (.string f.n), .lit (.string f.s), .lit (.string f.t)]
theorem open_file {n : Nat} {cs : List Value} {x : DataW H × List MemPlace} (hl : cs.length = 3) (h : DataW.trod enc Tryz.prog W base spare held n 67 cs = some x) : ∃ f : DF, cs = fcells f ∧ x.1 = fileD f := by
  match cs, hl with
  | [c0, c1, c2], _ =>
    obtain ⟨xs, k, _, hx, _, hlen, hfs⟩ := DataW.trod_struct Tryz.underlying67 h
    match xs, hlen with
    | [y0, y1, y2], _ =>
      obtain ⟨s0, e0, rfl, _⟩ := DataW.trod_string Tryz.underlying9 (show DataW.trod enc Tryz.prog W base spare held k 9 [c0] = some y0 by simpa [cellsStr1] using hfs 0 _ rfl)
      obtain ⟨s1, e1, rfl, _⟩ := DataW.trod_string Tryz.underlying9 (show DataW.trod enc Tryz.prog W base spare held k 9 [c1] = some y1 by simpa [cellsStr1] using hfs 1 _ rfl)
      obtain ⟨s2, e2, rfl, _⟩ := DataW.trod_string Tryz.underlying9 (show DataW.trod enc Tryz.prog W base spare held k 9 [c2] = some y2 by simpa [cellsStr1] using hfs 2 _ rfl)
      simp only [List.cons.injEq, and_true] at e0 e1 e2
      subst e0 e1 e2
      obtain ⟨l0, rfl⟩ := list_of1 s0
      obtain ⟨l1, rfl⟩ := list_of1 s1
      obtain ⟨l2, rfl⟩ := list_of1 s2
      subst hx
      exact ⟨⟨l0, l1, l2⟩, rfl, rfl⟩
instance : Inhabited (DataW H) := ⟨.nil⟩

end
end Go.Proofs.YtfejpbkapikdiaaGreatDoor

namespace Go.Proofs.YtfejpbkapikdiaaGreatDoor
open Go.ChangeShapes Go.WideShapes Go.ChangeAt Go.RowKit Go.ChangeMaps

def txnD {H : Type} (t : WTxn) : DataW H := .agg [.lit (.int .i64 t.z), .lit (.int .i64 t.o), .lit (.int .i64 t.s), .lit (.string t.p), .lit (.string t.d), .lit (.int .i64 t.v), .lit (.int .i64 t.w)]
structure TxnOk (t : WTxn) : Prop where
  z : (Lit.int .i64 t.z).wf = true
  o : (Lit.int .i64 t.o).wf = true
  s : (Lit.int .i64 t.s).wf = true
  p : (ByteArray.mk t.p.toArray).size ≤ maxLen
  d : (ByteArray.mk t.d.toArray).size ≤ maxLen
  v : (Lit.int .i64 t.v).wf = true
  w : (Lit.int .i64 t.w).wf = true

theorem cellsInt : Tryz.prog.cellsOf 3 = 1 := by kernel_rfl
theorem cellsStr : Tryz.prog.cellsOf 9 = 1 := by kernel_rfl
theorem cellsTxn : Tryz.prog.cellsOf 45 = 7 := by kernel_rfl
theorem ba_of (s : ByteArray) : ∃ l : List UInt8, s = ⟨l.toArray⟩ := ⟨s.data.toList, rfl⟩

end Go.Proofs.YtfejpbkapikdiaaGreatDoor

namespace Go.Proofs.YtfejpbkapikdiaaGreatDoor
open Go.ChangeShapes Go.WideShapes Go.ChangeAt Go.RowKit Go.ChangeMaps

theorem ncellsStr : Tryz.prog.cellsOf 9 = 1 := by kernel_rfl
theorem ncellsInt : Tryz.prog.cellsOf 3 = 1 := by kernel_rfl
theorem ncellsNode : Tryz.prog.cellsOf 75 = 9 := by kernel_rfl
theorem ncellsStat : Tryz.prog.cellsOf 73 = 7 := by kernel_rfl
theorem ncellsNs : Tryz.prog.cellsOf 28 = 1 := by kernel_rfl
theorem ncellsIs : Tryz.prog.cellsOf 29 = 1 := by kernel_rfl
theorem ncellsTree : Tryz.prog.cellsOf 31 = 3 := by kernel_rfl
theorem nlaidOut : laidOutB Tryz.prog = true := by kernel_rfl
theorem nlist_of (s : ByteArray) : ∃ l : List UInt8, s = ⟨l.toArray⟩ := ⟨s.data.toList, rfl⟩

section
variable {H : Type} {enc : TypeId × Value → H} {W : World} {base : Nat} {spare : Nat → Bool} {held : Bool}
def nodeD (n : Nd) : DataW H := .agg [.lit (.string n.p), .lit (.string n.d), .agg [.lit (.int .i64 n.c), .lit (.int .i64 n.m), .lit (.int .i64 n.q), .lit (.int .i64 n.v), .lit (.int .i64 n.k), .lit (.int .i64 n.o), .lit (.int .i64 n.n)]]
set_option maxRecDepth 10000 in
theorem open_stat {n : Nat} {cs : List Value} {x : DataW H × List MemPlace} (hl : cs.length = 7) (h : DataW.trod enc Tryz.prog W base spare held n 73 cs = some x) :
    ∃ i0 i1 i2 i3 i4 i5 i6 : Int, cs = [.int .i64 i0, .int .i64 i1, .int .i64 i2, .int .i64 i3, .int .i64 i4, .int .i64 i5, .int .i64 i6] ∧ x.1 = .agg [.lit (.int .i64 i0), .lit (.int .i64 i1), .lit (.int .i64 i2), .lit (.int .i64 i3), .lit (.int .i64 i4), .lit (.int .i64 i5), .lit (.int .i64 i6)] := by
  match cs, hl with
  | [c0, c1, c2, c3, c4, c5, c6], _ =>
    obtain ⟨xs, k, _, hx, _, hlen, hfs⟩ := DataW.trod_struct Tryz.underlying73 h
    match xs, hlen with
    | [y0, y1, y2, y3, y4, y5, y6], _ =>
      obtain ⟨i0, e0, rfl, _⟩ := DataW.trod_int Tryz.underlying3 (show DataW.trod enc Tryz.prog W base spare held k 3 [c0] = some y0 by simpa [ncellsInt] using hfs 0 _ rfl)
      obtain ⟨i1, e1, rfl, _⟩ := DataW.trod_int Tryz.underlying3 (show DataW.trod enc Tryz.prog W base spare held k 3 [c1] = some y1 by simpa [ncellsInt] using hfs 1 _ rfl)
      obtain ⟨i2, e2, rfl, _⟩ := DataW.trod_int Tryz.underlying3 (show DataW.trod enc Tryz.prog W base spare held k 3 [c2] = some y2 by simpa [ncellsInt] using hfs 2 _ rfl)
      obtain ⟨i3, e3, rfl, _⟩ := DataW.trod_int Tryz.underlying3 (show DataW.trod enc Tryz.prog W base spare held k 3 [c3] = some y3 by simpa [ncellsInt] using hfs 3 _ rfl)
      obtain ⟨i4, e4, rfl, _⟩ := DataW.trod_int Tryz.underlying3 (show DataW.trod enc Tryz.prog W base spare held k 3 [c4] = some y4 by simpa [ncellsInt] using hfs 4 _ rfl)
      obtain ⟨i5, e5, rfl, _⟩ := DataW.trod_int Tryz.underlying3 (show DataW.trod enc Tryz.prog W base spare held k 3 [c5] = some y5 by simpa [ncellsInt] using hfs 5 _ rfl)
      obtain ⟨i6, e6, rfl, _⟩ := DataW.trod_int Tryz.underlying3 (show DataW.trod enc Tryz.prog W base spare held k 3 [c6] = some y6 by simpa [ncellsInt] using hfs 6 _ rfl)
      simp only [List.cons.injEq, and_true] at e0 e1 e2 e3 e4 e5 e6
      subst e0 e1 e2 e3 e4 e5 e6
      subst hx
      exact ⟨i0, i1, i2, i3, i4, i5, i6, rfl, rfl⟩
set_option maxRecDepth 10000 in
theorem open_node {n : Nat} {cs : List Value} {x : DataW H × List MemPlace} (hl : cs.length = 9) (h : DataW.trod enc Tryz.prog W base spare held n 75 cs = some x) : ∃ f : Nd, cs = ncells f ∧ x.1 = nodeD f := by
  match cs, hl with
  | [c0, c1, c2, c3, c4, c5, c6, c7, c8], _ =>
    obtain ⟨xs, k, _, hx, _, hlen, hfs⟩ := DataW.trod_struct Tryz.underlying75 h
    match xs, hlen with
    | [y0, y1, y2], _ =>
      obtain ⟨s0, e0, rfl, _⟩ := DataW.trod_string Tryz.underlying9 (show DataW.trod enc Tryz.prog W base spare held k 9 [c0] = some y0 by simpa [ncellsStr] using hfs 0 _ rfl)
      obtain ⟨s1, e1, rfl, _⟩ := DataW.trod_string Tryz.underlying9 (show DataW.trod enc Tryz.prog W base spare held k 9 [c1] = some y1 by simpa [ncellsStr] using hfs 1 _ rfl)
      obtain ⟨i0, i1, i2, i3, i4, i5, i6, e2, hy⟩ := open_stat (cs := [c2, c3, c4, c5, c6, c7, c8]) rfl (show DataW.trod enc Tryz.prog W base spare held k 73 [c2, c3, c4, c5, c6, c7, c8] = some y2 by simpa [ncellsStr, ncellsStat] using hfs 2 _ rfl)
      simp only [List.cons.injEq, and_true] at e0 e1 e2
      obtain ⟨rfl, rfl, rfl, rfl, rfl, rfl, rfl⟩ := e2
      subst e0 e1
      obtain ⟨l0, rfl⟩ := nlist_of s0
      obtain ⟨l1, rfl⟩ := nlist_of s1
      subst hx
      refine ⟨⟨l0, l1, i0, i1, i2, i3, i4, i5, i6⟩, rfl, ?_⟩
      simp [nodeD, hy]
end
end Go.Proofs.YtfejpbkapikdiaaGreatDoor

namespace Go.Proofs.YtfejpbkapikdiaaGreatDoor
open Go.ChangeShapes Go.WideShapes Go.ChangeAt Go.RowKit Go.ChangeMaps

theorem hcellsStr : Tryz.prog.cellsOf 9 = 1 := by kernel_rfl
theorem hcellsInt : Tryz.prog.cellsOf 3 = 1 := by kernel_rfl
theorem hcellsW : Tryz.prog.cellsOf 80 = 3 := by kernel_rfl
theorem hlist_of (s : ByteArray) : ∃ l : List UInt8, s = ⟨l.toArray⟩ := ⟨s.data.toList, rfl⟩

section
variable {H : Type} {enc : TypeId × Value → H} {W : World} {base : Nat} {spare : Nat → Bool} {held : Bool}
def waD (x : Wa) : DataW H := .agg [.lit (.int .i64 x.s), .lit (.int .i64 x.k), .lit (.string x.p)]
structure WaOk (t : Wa) : Prop where
  s : (Lit.int .i64 t.s).wf = true
  k : (Lit.int .i64 t.k).wf = true
  p : (ByteArray.mk t.p.toArray).size ≤ maxLen
theorem hopen_w {n : Nat} {cs : List Value} {x : DataW H × List MemPlace} (hl : cs.length = 3) (h : DataW.trod enc Tryz.prog W base spare held n 80 cs = some x) : ∃ f : Wa, cs = wcells f ∧ x = (waD f, []) ∧ WaOk f := by
  match cs, hl with
  | [c0, c1, c2], _ =>
    obtain ⟨xs, k, _, hx, _, hlen, hfs⟩ := DataW.trod_struct Tryz.underlying80 h
    match xs, hlen with
    | [y0, y1, y2], _ =>
      obtain ⟨i0, e0, rfl, w0⟩ := DataW.trod_int Tryz.underlying3 (show DataW.trod enc Tryz.prog W base spare held k 3 [c0] = some y0 by simpa [hcellsInt] using hfs 0 _ rfl)
      obtain ⟨i1, e1, rfl, w1⟩ := DataW.trod_int Tryz.underlying3 (show DataW.trod enc Tryz.prog W base spare held k 3 [c1] = some y1 by simpa [hcellsInt] using hfs 1 _ rfl)
      obtain ⟨s2, e2, rfl, w2⟩ := DataW.trod_string Tryz.underlying9 (show DataW.trod enc Tryz.prog W base spare held k 9 [c2] = some y2 by simpa [hcellsStr] using hfs 2 _ rfl)
      simp only [List.cons.injEq, and_true] at e0 e1 e2
      subst e0 e1 e2
      obtain ⟨l2, rfl⟩ := hlist_of s2
      subst hx
      exact ⟨⟨i0, i1, l2⟩, rfl, rfl, ⟨w0, w1, w2⟩⟩
theorem bulk_pos (d : DataW H) : 1 ≤ Rows.uptoBulk d := by
  cases d with
  | lit l => cases l <;> simp [Rows.uptoBulk]
  | _ => simp [Rows.uptoBulk]
end
end Go.Proofs.YtfejpbkapikdiaaGreatDoor

namespace Go.Proofs.YtfejpbkapikdiaaGreatDoor
open Go.ChangeShapes Go.WideShapes Go.ChangeAt Go.RowKit Go.ChangeMaps

theorem ncellsLog : Tryz.prog.cellsOf 25 = 1 := by kernel_rfl
section
variable {H : Type} {enc : TypeId × Value → H} {W : World} {base : Nat} {spare : Nat → Bool} {held : Bool}
set_option maxRecDepth 10000 in
theorem nopen_one {n : Nat} {cs : List Value} {x : DataW H × List MemPlace} (hl : cs.length = 7) (h : DataW.trod enc Tryz.prog W base spare held n 45 cs = some x) : ∃ t : WTxn, cs = tcells t ∧ x.1 = txnD t ∧ TxnOk t := by
  match cs, hl with
  | [c0, c1, c2, c3, c4, c5, c6], _ =>
    obtain ⟨xs, n, _, hx, _, hlen, hfs⟩ := DataW.trod_struct Tryz.underlying45 h
    match xs, hlen with
    | [y0, y1, y2, y3, y4, y5, y6], _ =>
      obtain ⟨z, e0, rfl, w0⟩ := DataW.trod_int Tryz.underlying3 (show DataW.trod enc Tryz.prog W base spare held n 3 [c0] = some y0 by simpa [cellsInt] using hfs 0 _ rfl)
      obtain ⟨o, e1, rfl, w1⟩ := DataW.trod_int Tryz.underlying3 (show DataW.trod enc Tryz.prog W base spare held n 3 [c1] = some y1 by simpa [cellsInt] using hfs 1 _ rfl)
      obtain ⟨s, e2, rfl, w2⟩ := DataW.trod_int Tryz.underlying3 (show DataW.trod enc Tryz.prog W base spare held n 3 [c2] = some y2 by simpa [cellsInt] using hfs 2 _ rfl)
      obtain ⟨p', e3, rfl, w3⟩ := DataW.trod_string Tryz.underlying9 (show DataW.trod enc Tryz.prog W base spare held n 9 [c3] = some y3 by simpa [cellsStr] using hfs 3 _ rfl)
      obtain ⟨d', e4, rfl, w4⟩ := DataW.trod_string Tryz.underlying9 (show DataW.trod enc Tryz.prog W base spare held n 9 [c4] = some y4 by simpa [cellsStr] using hfs 4 _ rfl)
      obtain ⟨v', e5, rfl, w5⟩ := DataW.trod_int Tryz.underlying3 (show DataW.trod enc Tryz.prog W base spare held n 3 [c5] = some y5 by simpa [cellsInt] using hfs 5 _ rfl)
      obtain ⟨u', e6, rfl, w6⟩ := DataW.trod_int Tryz.underlying3 (show DataW.trod enc Tryz.prog W base spare held n 3 [c6] = some y6 by simpa [cellsInt] using hfs 6 _ rfl)
      simp only [List.cons.injEq, and_true] at e0 e1 e2 e3 e4 e5 e6
      subst e0 e1 e2 e3 e4 e5 e6
      obtain ⟨pl, rfl⟩ := ba_of p'
      obtain ⟨dl, rfl⟩ := ba_of d'
      subst hx
      exact ⟨⟨z, o, s, pl, dl, v', u'⟩, rfl, rfl, ⟨w0, w1, w2, w3, w4, w5, w6⟩⟩
end
end Go.Proofs.YtfejpbkapikdiaaGreatDoor

namespace Go.Proofs.YtfejpbkapikdiaaGreatDoor
open Go.ChangeShapes Go.WideShapes Go.ChangeAt Go.RowKit Go.ChangeMaps

theorem vcellsBool : Tryz.prog.cellsOf 4 = 1 := by kernel_rfl
theorem vcellsPeer : Tryz.prog.cellsOf 27 = 4 := by kernel_rfl
theorem vcellsWs : Tryz.prog.cellsOf 32 = 1 := by kernel_rfl
theorem vcellsServer : Tryz.prog.cellsOf 34 = 10 := by kernel_rfl

/-- its parts are together no longer than N -/
structure SvB (s : Sv) (N : Nat) : Prop where
  d : s.fs.length * 4 ≤ N
  df : ∀ f ∈ s.fs, f.n.length ≤ N ∧ f.s.length ≤ N ∧ f.t.length ≤ N
  l : s.ts.length * 8 ≤ N
  lf : ∀ x ∈ s.ts, (x.p.length ≤ N ∧ x.d.length ≤ N) ∧ TxnOk x
  n : s.tr.ns.length * 2 ≤ N
  nf : ∀ x ∈ s.tr.ns, x.p.length ≤ N ∧ x.d.length ≤ N
  si : s.tr.ss.length ≤ N
  wa : s.ws.length * 4 ≤ N
  wf : ∀ x ∈ s.ws, x.p.length ≤ N
  z : (Lit.int .i64 s.tr.z).wf = true
  se : ∀ x ∈ s.tr.ss, (Lit.int .i64 x).wf = true
theorem SvB.fits {s : Sv} {N : Nat} (h : SvB s N) (hN : N ≤ 1048576) : Fits s :=
  ⟨by have := h.d; omega, fun f hf => by have := h.df f hf; omega, by have := h.l; omega, fun x hx => by have := (h.lf x hx).1; omega, by have := h.n; omega, fun x hx => by have := h.nf x hx; omega, by have := h.si; omega, by have := h.wa; omega, fun x hx => by have := h.wf x hx; omega⟩
theorem SvB.few {s : Sv} {N : Nat} (h : SvB s N) (hN : N ≤ 1048576) : Few s :=
  ⟨by have := h.d; omega, by have := h.l; omega, by have := h.n; omega, by have := h.si; omega, by have := h.wa; omega⟩

section
variable {H : Type} {enc : TypeId × Value → H} {W : World} {base : Nat} {spare : Nat → Bool} {held : Bool}
theorem ubulk_sum {α : Type} (dat : α → DataW H) (b : Nat) (hb : ∀ x, b ≤ Rows.uptoBulk (dat x)) : ∀ xs : List α, xs.length * b ≤ Rows.uptoBulkAll (xs.map dat)
  | [] => by simp [Rows.uptoBulkAll]
  | x :: r => by
    have := ubulk_sum dat b hb r
    have := hb x
    simp only [List.length_cons, List.map_cons, Rows.uptoBulkAll, Nat.add_mul]
    omega
theorem ubulk_mem {α : Type} (dat : α → DataW H) : ∀ (xs : List α) (x : α), x ∈ xs → Rows.uptoBulk (dat x) ≤ Rows.uptoBulkAll (xs.map dat)
  | y :: r, x, h => by
    simp only [List.map_cons, Rows.uptoBulkAll]
    rcases List.mem_cons.1 h with rfl | h
    · omega
    · have := ubulk_mem dat r x h
      omega
set_option maxRecDepth 10000 in
/-- a slice of elements that are laid in a row, and its bulk -/
theorem open_seqU {α : Type} [Lay α] (al : α) {T E : TypeId} (hU : Tryz.prog.underlying T = some (.slice E)) (hk : Tryz.prog.cellsOf E = Lay.k α) (hk0 : 0 < Lay.k α) (dat : α → DataW H) (P : α → Prop)
    (ho : ∀ {n : Nat} {cs : List Value} {x : DataW H × List MemPlace}, cs.length = Lay.k α → DataW.trod enc Tryz.prog W base spare held n E cs = some x → ∃ f : α, cs = Lay.cs f ∧ x.1 = dat f ∧ P f)
    {fuel : Nat} {v : Value} {y : DataW H × List MemPlace} (h : DataW.trod enc Tryz.prog W base spare held fuel T [v] = some y) :
    ∃ xs : List α, SeqV W v xs ∧ Rows.uptoBulkAll (xs.map dat) + 1 ≤ Rows.uptoBulk y.1 ∧ ∀ x ∈ xs, P x := by
  rcases Go.Deep.open_slice hU h with ⟨h1, hx⟩ | ⟨a, len, cap, m, k, D, Pl, h1, hb, hl, hm, hmm, hx, hel⟩
  · simp only [List.cons.injEq, and_true] at h1
    rw [h1]
    exact ⟨[], SeqV.nil W, by have := bulk_pos y.1; simpa [Rows.uptoBulkAll] using this, by simp⟩
  · simp only [List.cons.injEq, and_true] at h1
    rw [h1]
    subst hx
    have hlm : len ≤ m := by rw [hmm]; split <;> omega
    have each : ∀ i, i < len → ∃ f : α, (∀ c, c < Lay.k α → W.cell? (a.add (i * Lay.k α + c)) = (Lay.cs f)[c]?) ∧ D i = dat f ∧ P f := by
      intro i hi
      obtain ⟨cs', g1, g2⟩ := hel i (by omega)
      rw [hk] at g1
      obtain ⟨_, hlen, hcell⟩ := World.cells?_some g1
      obtain ⟨f, rfl, hd, hp⟩ := ho hlen g2
      refine ⟨f, fun c hc => ?_, hd, hp⟩
      have := hcell c hc
      rwa [Go.Deep.add_add] at this
    have : Inhabited α := ⟨al⟩
    obtain ⟨F, hF⟩ := Go.Deep.choose_lt each
    refine ⟨(List.range len).map F, ?_, ?_, ?_⟩
    · by_cases h0 : len = 0
      · subst h0
        exact .inl ⟨some a, cap, rfl, rfl, hm⟩
      · have c0 := (hF 0 (by omega)).1 0 hk0
        obtain ⟨y, hy⟩ : ∃ y, (Lay.cs (F 0))[0]? = some y := ⟨_, List.getElem?_eq_getElem (by rw [Lay.len]; exact hk0)⟩
        rw [hy] at c0
        obtain ⟨b, off, sp⟩ := a
        have hsp : sp = none := by
          cases sp with
          | none => rfl
          | some s => simp [World.cell?, Addr.add] at c0; split at c0 <;> simp at c0
        subst hsp
        have hblt : b < W.heap.size := World.block_lt_of_cell? W _ (show W.cell? ((⟨b, off, none⟩ : Addr).add (0 * Lay.k α + 0)) = some _ from c0) |> fun h => by simpa [Addr.add] using h
        refine .inr ⟨b, off, cap, by simp, by simpa using hl, hm, hblt, by simp; omega, fun j u hj => ?_⟩
        have hjl : j < len * Lay.k α := by
          have := (List.getElem?_eq_some_iff.1 hj).1
          rw [cellsL_length, List.length_map, List.length_range] at this
          exact this
        have hi : j / Lay.k α < len := Nat.div_lt_of_lt_mul (by rw [Nat.mul_comm]; exact hjl)
        have hm' : j % Lay.k α < Lay.k α := Nat.mod_lt _ hk0
        have hdm : j / Lay.k α * Lay.k α + j % Lay.k α = j := by rw [Nat.mul_comm]; exact Nat.div_add_mod j _
        have hg := cellsL_get ((List.range len).map F) (j / Lay.k α) (F (j / Lay.k α)) (by rw [List.getElem?_map, List.getElem?_range hi]; rfl) (j % Lay.k α) hm'
        rw [hdm, hj] at hg
        have := (hF (j / Lay.k α) hi).1 (j % Lay.k α) hm'
        rw [hdm, Addr.add_lit, ← hg] at this
        exact this
    · have e : (List.range len).map D = ((List.range len).map F).map dat := by
        rw [List.map_map]
        exact List.map_congr_left fun i hi => (hF i (by simpa using hi)).2.1
      simp only [Rows.uptoBulk, e]
      omega
    · intro x hx
      obtain ⟨i, hi, rfl⟩ := List.mem_map.1 hx
      exact (hF i (by simpa using hi)).2.2
theorem open_int1 {n : Nat} {cs : List Value} {x : DataW H × List MemPlace} (_hl : cs.length = Lay.k Int) (h : DataW.trod enc Tryz.prog W base spare held n 3 cs = some x) : ∃ f : Int, cs = Lay.cs f ∧ x.1 = (.lit (.int .i64 f) : DataW H) ∧ (Lit.int .i64 f).wf = true := by
  obtain ⟨i, e, rfl, wf⟩ := DataW.trod_int Tryz.underlying3 h
  exact ⟨i, e, rfl, wf⟩

set_option maxRecDepth 10000 in
set_option maxHeartbeats 1000000 in
theorem open_server {r : Reach} {b0 : Nat} {v : Value} {d : DataW H} {p : List MemPlace}
    (hv : Value.okWide Tryz.prog W r b0 34 v) (h : DataW.Trod enc Tryz.prog W base spare held 34 v d p) :
    ∃ s, SvV W v s ∧ SvB s (Rows.uptoBulk d) := by
  obtain ⟨cs, rfl, hsz⟩ := okWide_struct Tryz.underlying34 hv
  have hsz1 : cs.size = 10 := hsz.trans vcellsServer
  obtain ⟨l⟩ := cs
  match l, hsz1 with
  | [c0, c1, c2, c3, c4, c5, c6, c7, c8, c9], _ =>
    obtain ⟨fuel, hf⟩ := h
    have hf' : DataW.trod enc Tryz.prog W base spare held fuel 34 [c0, c1, c2, c3, c4, c5, c6, c7, c8, c9] = some (d, p) := by simpa [Value.cells] using hf
    obtain ⟨xs, k, _, hx, _, hlen, hfs⟩ := DataW.trod_struct Tryz.underlying34 hf'
    match xs, hlen with
    | [y0, y1, y2, y3, y4], _ =>
      obtain ⟨b0, e0, rfl⟩ := DataW.trod_bool Tryz.underlying4 (show DataW.trod enc Tryz.prog W base spare held k 4 [c0] = some y0 by simpa [vcellsBool] using hfs 0 _ rfl)
      have q1 : DataW.trod enc Tryz.prog W base spare held k 24 [c1] = some y1 := by simpa [vcellsBool, cellsDisk] using hfs 1 _ rfl
      have q2 : DataW.trod enc Tryz.prog W base spare held k 27 [c2, c3, c4, c5] = some y2 := by simpa [vcellsBool, cellsDisk, vcellsPeer] using hfs 2 _ rfl
      have q3 : DataW.trod enc Tryz.prog W base spare held k 31 [c6, c7, c8] = some y3 := by simpa [vcellsBool, cellsDisk, vcellsPeer, ncellsTree] using hfs 3 _ rfl
      have q4 : DataW.trod enc Tryz.prog W base spare held k 32 [c9] = some y4 := by simpa [vcellsBool, cellsDisk, vcellsPeer, ncellsTree, vcellsWs] using hfs 4 _ rfl
      obtain ⟨z1, n1, hx1, _, hy1⟩ := trod_struct1 Tryz.underlying24 q1
      have hy1' : DataW.trod enc Tryz.prog W base spare held n1 22 [c1] = some z1 := by simpa [cellsSl] using hy1
      obtain ⟨fs, hd, ud, _⟩ := open_seqU (⟨[], [], []⟩ : DF) Tryz.underlying22 cellsFile (by decide) fileD (fun _ => True) (fun hl h => by obtain ⟨f, h1, h2⟩ := open_file hl h; exact ⟨f, h1, h2, trivial⟩) hy1'
      obtain ⟨xs2, k2, _, hx2, _, hlen2, hfs2⟩ := DataW.trod_struct Tryz.underlying27 q2
      match xs2, hlen2 with
      | [p0, p1, p2, p3], _ =>
        obtain ⟨i2, e2, rfl, _⟩ := DataW.trod_int Tryz.underlying3 (show DataW.trod enc Tryz.prog W base spare held k2 3 [c2] = some p0 by simpa [ncellsInt] using hfs2 0 _ rfl)
        obtain ⟨i3, e3, rfl, _⟩ := DataW.trod_int Tryz.underlying3 (show DataW.trod enc Tryz.prog W base spare held k2 3 [c3] = some p1 by simpa [ncellsInt] using hfs2 1 _ rfl)
        have q24 : DataW.trod enc Tryz.prog W base spare held k2 25 [c4] = some p2 := by simpa [ncellsInt, ncellsLog] using hfs2 2 _ rfl
        obtain ⟨i5, e5, rfl, _⟩ := DataW.trod_int Tryz.underlying3 (show DataW.trod enc Tryz.prog W base spare held k2 3 [c5] = some p3 by simpa [ncellsInt, ncellsLog] using hfs2 3 _ rfl)
        obtain ⟨ts, hl, ul, okl⟩ := open_seqU (⟨0, 0, 0, [], [], 0, 0⟩ : WTxn) Tryz.underlying25 cellsTxn (by decide) txnD TxnOk nopen_one q24
        obtain ⟨xs3, k3, _, hx3, _, hlen3, hfs3⟩ := DataW.trod_struct Tryz.underlying31 q3
        match xs3, hlen3 with
        | [t0, t1, t2], _ =>
          obtain ⟨i6, e6, rfl, wz⟩ := DataW.trod_int Tryz.underlying3 (show DataW.trod enc Tryz.prog W base spare held k3 3 [c6] = some t0 by simpa [ncellsInt] using hfs3 0 _ rfl)
          obtain ⟨ns, hn, un, _⟩ := open_seqU (⟨[], [], 0, 0, 0, 0, 0, 0, 0⟩ : Nd) Tryz.underlying28 ncellsNode (by decide) nodeD (fun _ => True) (fun hl h => by obtain ⟨f, h1, h2⟩ := open_node hl h; exact ⟨f, h1, h2, trivial⟩) (show DataW.trod enc Tryz.prog W base spare held k3 28 [c7] = some t1 by simpa [ncellsInt, ncellsNs] using hfs3 1 _ rfl)
          obtain ⟨ss, hs, us, oss⟩ := open_seqU (0 : Int) Tryz.underlying29 ncellsInt (by decide) (fun i => (.lit (.int .i64 i) : DataW H)) (fun i => (Lit.int .i64 i).wf = true) open_int1 (show DataW.trod enc Tryz.prog W base spare held k3 29 [c8] = some t2 by simpa [ncellsInt, ncellsNs, ncellsIs] using hfs3 2 _ rfl)
          obtain ⟨ws, hw, uw, _⟩ := open_seqU (⟨0, 0, []⟩ : Wa) Tryz.underlying32 hcellsW (by decide) waD (fun _ => True) (fun hl h => by obtain ⟨f, h1, h2, _⟩ := hopen_w hl h; exact ⟨f, h1, by rw [h2], trivial⟩) q4
          simp only [List.cons.injEq, and_true] at e0 e2 e3 e5 e6
          subst e0 e2 e3 e5 e6
          subst hx1 hx2 hx3
          simp only [Prod.mk.injEq] at hx
          obtain ⟨rfl, _⟩ := hx
          simp only [List.map_cons, List.map_nil, Rows.uptoBulk, Rows.uptoBulkAll]
          refine ⟨⟨b0, fs, i2, i3, ts, i5, ⟨i6, ns, ss⟩, ws⟩, ⟨c1, c4, c7, c8, c9, rfl, seq_disk.1 hd, seq_log.1 hl, hn, hs, hw⟩, ?_⟩
          refine ⟨?_, fun f hf => ?_, ?_, fun x hx => ⟨?_, okl x hx⟩, ?_, fun x hx => ?_, ?_, ?_, fun x hx => ?_, wz, oss⟩
          · have := ubulk_sum (H := H) fileD 4 (fun f => by simp [fileD, Rows.uptoBulk, Rows.uptoBulkAll]; omega) fs
            simp only; omega
          · have := ubulk_mem (H := H) fileD fs f hf
            simp only [fileD, Rows.uptoBulk, Rows.uptoBulkAll] at this
            omega
          · have := ubulk_sum (H := H) txnD 8 (fun f => by simp [txnD, Rows.uptoBulk, Rows.uptoBulkAll]; omega) ts
            simp only; omega
          · have := ubulk_mem (H := H) txnD ts x hx
            simp only [txnD, Rows.uptoBulk, Rows.uptoBulkAll] at this
            omega
          · have := ubulk_sum (H := H) nodeD 2 (fun f => by simp [nodeD, Rows.uptoBulk, Rows.uptoBulkAll]; omega) ns
            simp only; omega
          · have := ubulk_mem (H := H) nodeD ns x hx
            simp only [nodeD, Rows.uptoBulk, Rows.uptoBulkAll] at this
            omega
          · have := ubulk_sum (H := H) (fun i : Int => (.lit (.int .i64 i) : DataW H)) 1 (fun f => by simp [Rows.uptoBulk]) ss
            simp only; omega
          · have := ubulk_sum (H := H) waD 4 (fun f => by simp [waD, Rows.uptoBulk, Rows.uptoBulkAll]; omega) ws
            simp only; omega
          · have := ubulk_mem (H := H) waD ws x hx
            simp only [waD, Rows.uptoBulk, Rows.uptoBulkAll] at this
            omega
end
end Go.Proofs.YtfejpbkapikdiaaGreatDoor

namespace Go.Proofs.YtfejpbkapikdiaaGreatDoor
open Go.ChangeShapes Go.WideShapes Go.ChangeAt Go.RowKit Go.ChangeMaps

theorem carg_of {s : Sv} {N : Nat} (h : SvB s N) (hN : N ≤ 1048576) : ∀ xs : List WTxn, (∀ x ∈ xs, x ∈ s.ts) → CArg s xs := fun xs hm =>
  ⟨⟨⟨fun i hi => bounds_i64 (h.se i hi), fun n hn => by have := h.nf n hn; omega⟩, fun x hx => by have := h.wf x hx; omega, by have := h.wa; omega, fun x hx => by have := (h.lf x (hm x hx)).1; omega, fun x hx => by have := (h.lf x (hm x hx)).1; omega⟩,
    (bounds_i64 h.z).2, fun n hn => by have := h.nf n hn; omega, by have := h.si; omega, fun x hx => ⟨(bounds_i64 (h.lf x (hm x hx)).2.z).2, by have := (h.lf x (hm x hx)).1; omega, by have := (h.lf x (hm x hx)).1; omega⟩⟩
end Go.Proofs.YtfejpbkapikdiaaGreatDoor
