/-
  A transaction as an argument: opened into its seven fields, and read again.
  A disk as an argument: opened into its files; what its weights say of their lengths.
-/
import Derived.Test.YtaoflcmeiaffjaaGreatDoorTH
import Derived.ProofKit
import Derived.OpenShut
import Derived.SizedLaws
import Derived.Deep.Slices
import Derived.Carry
namespace Go.Proofs.YtaoflcmeiaffjaaGreatDoor
open Go.ChangeShapes Go.WideShapes Go.ChangeAt Go.RowKit Go.ChangeMaps

def txnD {H : Type} (t : WTxn) : DataW H := .agg [.lit (.int .i64 t.z), .lit (.int .i64 t.o), .lit (.int .i64 t.s), .lit (.string t.p), .lit (.string t.d), .lit (.int .i64 t.v), .lit (.int .i64 t.w)]
structure TxnOk (t : WTxn) : Prop where
  z : (Lit.int .i64 t.z).wf = true
  o : (Lit.int .i64 t.o).wf = true
  s : (Lit.int .i64 t.s).wf = true
  p : (ByteArray.mk t.p.toArray).size ≤ maxLen
  d : (ByteArray.mk t.d.toArray).size ≤ maxLen
  v : (Lit.int .i64 t.v).wf = true
  w : (Lit.int .i64 t.w).wf = true

theorem cellsInt : Tryz.prog.cellsOf 3 = 1 := by kernel_rfl
theorem cellsStr : Tryz.prog.cellsOf 9 = 1 := by kernel_rfl
theorem cellsTxn : Tryz.prog.cellsOf 47 = 7 := by kernel_rfl
theorem ba_of (s : ByteArray) : ∃ l : List UInt8, s = ⟨l.toArray⟩ := ⟨s.data.toList, rfl⟩

set_option maxRecDepth 10000 in
theorem open_txn {H : Type} {enc : TypeId × Value → H} {W : World} {base : Nat} {spare : Nat → Bool} {held : Bool} {r : Reach} {b0 : Nat} {v : Value} {d : DataW H} {p : List MemPlace}
    (hv : Value.okWide Tryz.prog W r b0 47 v) (h : DataW.Trod enc Tryz.prog W base spare held 47 v d p) :
    ∃ t : WTxn, v = txnV t ∧ d = txnD t ∧ p = [] ∧ TxnOk t := by
  obtain ⟨cs, rfl, hsz⟩ := okWide_struct Tryz.underlying47 hv
  have hsz7 : cs.size = 7 := hsz.trans cellsTxn
  obtain ⟨l⟩ := cs
  match l, hsz7 with
  | [c0, c1, c2, c3, c4, c5, c6], _ =>
    obtain ⟨fuel, hf⟩ := h
    obtain ⟨xs, n, _, hx, _, hlen, hfs⟩ := DataW.trod_struct Tryz.underlying47 hf
    match xs, hlen with
    | [y0, y1, y2, y3, y4, y5, y6], _ =>
      obtain ⟨z, e0, rfl, w0⟩ := DataW.trod_int Tryz.underlying3 (show DataW.trod enc Tryz.prog W base spare held n 3 [c0] = some y0 by simpa [Value.cells, cellsInt] using hfs 0 _ rfl)
      obtain ⟨o, e1, rfl, w1⟩ := DataW.trod_int Tryz.underlying3 (show DataW.trod enc Tryz.prog W base spare held n 3 [c1] = some y1 by simpa [Value.cells, cellsInt] using hfs 1 _ rfl)
      obtain ⟨s, e2, rfl, w2⟩ := DataW.trod_int Tryz.underlying3 (show DataW.trod enc Tryz.prog W base spare held n 3 [c2] = some y2 by simpa [Value.cells, cellsInt] using hfs 2 _ rfl)
      obtain ⟨p', e3, rfl, w3⟩ := DataW.trod_string Tryz.underlying9 (show DataW.trod enc Tryz.prog W base spare held n 9 [c3] = some y3 by simpa [Value.cells, cellsStr] using hfs 3 _ rfl)
      obtain ⟨d', e4, rfl, w4⟩ := DataW.trod_string Tryz.underlying9 (show DataW.trod enc Tryz.prog W base spare held n 9 [c4] = some y4 by simpa [Value.cells, cellsStr] using hfs 4 _ rfl)
      obtain ⟨v', e5, rfl, w5⟩ := DataW.trod_int Tryz.underlying3 (show DataW.trod enc Tryz.prog W base spare held n 3 [c5] = some y5 by simpa [Value.cells, cellsInt] using hfs 5 _ rfl)
      obtain ⟨u', e6, rfl, w6⟩ := DataW.trod_int Tryz.underlying3 (show DataW.trod enc Tryz.prog W base spare held n 3 [c6] = some y6 by simpa [Value.cells, cellsInt] using hfs 6 _ rfl)
      simp only [List.cons.injEq, and_true] at e0 e1 e2 e3 e4 e5 e6
      subst e0 e1 e2 e3 e4 e5 e6
      obtain ⟨pl, rfl⟩ := ba_of p'
      obtain ⟨dl, rfl⟩ := ba_of d'
      simp only [Prod.mk.injEq] at hx
      exact ⟨⟨z, o, s, pl, dl, v', u'⟩, rfl, hx.1, hx.2, ⟨w0, w1, w2, w3, w4, w5, w6⟩⟩

theorem shut_txn {H : Type} {enc : TypeId × Value → H} {W : World} {base : Nat} {spare : Nat → Bool} {held : Bool} {t : WTxn} (h : TxnOk t) :
    DataW.Trod enc Tryz.prog W base spare held 47 (txnV t) (txnD t) [] := by
  have i : ∀ x : Int, (Lit.int .i64 x).wf = true → DataW.trod enc Tryz.prog W base spare held 1 3 [.int .i64 x] = some (.lit (.int .i64 x), []) := fun x hx => by simp [DataW.trod, Tryz.underlying3, hx]
  have g : ∀ l : List UInt8, (ByteArray.mk l.toArray).size ≤ maxLen → DataW.trod enc Tryz.prog W base spare held 1 9 [.string ⟨l.toArray⟩] = some (.lit (.string l), []) := fun l hl => by simp [DataW.trod, Tryz.underlying9, hl]
  have := trod_struct_mk (enc := enc) (w := W) (base := base) (spare := spare) (held := held) (n := 1) (cs := [.int .i64 t.z, .int .i64 t.o, .int .i64 t.s, .string ⟨t.p.toArray⟩, .string ⟨t.d.toArray⟩, .int .i64 t.v, .int .i64 t.w])
    (xs := [(.lit (.int .i64 t.z), []), (.lit (.int .i64 t.o), []), (.lit (.int .i64 t.s), []), (.lit (.string t.p), []), (.lit (.string t.d), []), (.lit (.int .i64 t.v), []), (.lit (.int .i64 t.w), [])])
    Tryz.underlying47 cellsTxn.symm (by simp [cellsInt, cellsStr, i _ h.z, i _ h.o, i _ h.s, g _ h.p, g _ h.d, i _ h.v, i _ h.w])
  exact ⟨2, by simpa [Value.cells, txnV, txnD] using this⟩

theorem sized_txn {H : Type} {ts : List TypeId} {ds : List (DataW H)} (h : (DataW.weightsEach Tryz.prog ts ds).all (· ≤ reachBytes) = true) {j : Nat} {t : WTxn} (ht : ts[j]? = some 47) (hd : ds[j]? = some (txnD t)) : t.p.length ≤ 140737488351232 ∧ t.d.length ≤ 140737488351232 := by
  have e : reachBytes = 140737488351232 := by decide
  have h1 := List.all_eq_true.1 h _ (DataW.weights_mem_each ht hd t.p.length (by simp [DataW.weights, txnD, Tryz.underlying47, DataW.weightsEach]))
  have h2 := List.all_eq_true.1 h _ (DataW.weights_mem_each ht hd t.d.length (by simp [DataW.weights, txnD, Tryz.underlying47, DataW.weightsEach]))
  rw [e] at h1 h2
  exact ⟨by simpa using h1, by simpa using h2⟩

end Go.Proofs.YtaoflcmeiaffjaaGreatDoor

namespace Go.Proofs.YtaoflcmeiaffjaaGreatDoor
open Go.ChangeShapes Go.WideShapes Go.ChangeAt Go.RowKit Go.ChangeMaps

theorem cellsStr1 : Tryz.prog.cellsOf 9 = 1 := by kernel_rfl
theorem cellsFile : Tryz.prog.cellsOf 72 = 3 := by kernel_rfl
theorem cellsSl : Tryz.prog.cellsOf 22 = 1 := by kernel_rfl
theorem cellsDisk : Tryz.prog.cellsOf 24 = 1 := by kernel_rfl
theorem bytesFile : Tryz.prog.bytesOf 72 = 48 := by kernel_rfl
theorem laidOut : laidOutB Tryz.prog = true := by kernel_rfl
theorem list_of1 (s : ByteArray) : ∃ l : List UInt8, s = ⟨l.toArray⟩ := ⟨s.data.toList, rfl⟩

section
variable {H : Type} {enc : TypeId × Value → H} {W : World} {base : Nat} {spare : Nat → Bool} {held : Bool}
def fileD (f : DF) : DataW H := .agg [.lit (.string f.n), .lit (.string f.s), .lit (.string f.t)]
theorem open_file {n : Nat} {cs : List Value} {x : DataW H × List MemPlace} (hl : cs.length = 3) (h : DataW.trod enc Tryz.prog W base spare held n 72 cs = some x) : ∃ f : DF, cs = fcells f ∧ x.1 = fileD f := by
  match cs, hl with
  | [c0, c1, c2], _ =>
    obtain ⟨xs, k, _, hx, _, hlen, hfs⟩ := DataW.trod_struct Tryz.underlying72 h
    match xs, hlen with
    | [y0, y1, y2], _ =>
      obtain ⟨s0, e0, rfl, _⟩ := DataW.trod_string Tryz.underlying9 (show DataW.trod enc Tryz.prog W base spare held k 9 [c0] = some y0 by simpa [cellsStr1] using hfs 0 _ rfl)
      obtain ⟨s1, e1, rfl, _⟩ := DataW.trod_string Tryz.underlying9 (show DataW.trod enc Tryz.prog W base spare held k 9 [c1] = some y1 by simpa [cellsStr1] using hfs 1 _ rfl)
      obtain ⟨s2, e2, rfl, _⟩ := DataW.trod_string Tryz.underlying9 (show DataW.trod enc Tryz.prog W base spare held k 9 [c2] = some y2 by simpa [cellsStr1] using hfs 2 _ rfl)
      simp only [List.cons.injEq, and_true] at e0 e1 e2
      subst e0 e1 e2
      obtain ⟨l0, rfl⟩ := list_of1 s0
      obtain ⟨l1, rfl⟩ := list_of1 s1
      obtain ⟨l2, rfl⟩ := list_of1 s2
      subst hx
      exact ⟨⟨l0, l1, l2⟩, rfl, rfl⟩
theorem weights_file (f : DF) : DataW.weights Tryz.prog 72 (fileD f : DataW H) = [f.n.length, f.s.length, f.t.length] := by
  simp [DataW.weights, fileD, Tryz.underlying72, DataW.weightsEach]
theorem weightsAll_mem {e : TypeId} : ∀ (l : List (DataW H)) (d : DataW H) (x : Nat), d ∈ l → x ∈ DataW.weights Tryz.prog e d → x ∈ DataW.weightsAll Tryz.prog e l
  | d' :: r, d, x, h, hx => by
    rw [DataW.weightsAll]
    rcases List.mem_cons.1 h with rfl | h
    · exact List.mem_append.2 (.inl hx)
    · exact List.mem_append.2 (.inr (weightsAll_mem r d x h hx))
instance : Inhabited (DataW H) := ⟨.nil⟩

set_option maxRecDepth 10000 in
theorem open_disk {r : Reach} {b0 : Nat} {v : Value} {d : DataW H} {p : List MemPlace}
    (hv : Value.okWide Tryz.prog W r b0 24 v) (h : DataW.Trod enc Tryz.prog W base spare held 24 v d p) :
    ∃ c fs, v = .agg #[c] ∧ DiskV W c fs ∧ ∀ M, (∀ x ∈ DataW.weights Tryz.prog 24 d, x ≤ M) → (∀ f ∈ fs, f.n.length ≤ M ∧ f.s.length ≤ M ∧ f.t.length ≤ M) ∧ fs.length * 48 ≤ M := by
  obtain ⟨cs, rfl, hsz⟩ := okWide_struct Tryz.underlying24 hv
  have hsz1 : cs.size = 1 := hsz.trans cellsDisk
  obtain ⟨l⟩ := cs
  match l, hsz1 with
  | [c0], _ =>
    obtain ⟨fuel, hf⟩ := h
    obtain ⟨y0, n, hx, _, hy⟩ := trod_struct1 Tryz.underlying24 hf
    have hy' : DataW.trod enc Tryz.prog W base spare held n 22 [c0] = some y0 := by simpa [Value.cells, cellsSl] using hy
    simp only [Prod.mk.injEq] at hx
    obtain ⟨rfl, rfl⟩ := hx
    rcases Go.Deep.open_slice Tryz.underlying22 hy' with ⟨h1, rfl⟩ | ⟨a, len, cap, m, k, D, Pl, h1, hb, hl, hm, hmm, rfl, hel⟩
    · simp only [List.cons.injEq, and_true] at h1
      subst h1
      exact ⟨_, [], rfl, DiskV.nil W, fun M _ => ⟨by simp, by simp⟩⟩
    · simp only [List.cons.injEq, and_true] at h1
      subst h1
      have hlm : len ≤ m := by rw [hmm]; split <;> omega
      have each : ∀ i, i < len → ∃ f : DF, (∀ c, c < 3 → W.cell? (a.add (i * 3 + c)) = (fcells f)[c]?) ∧ D i = fileD f := by
        intro i hi
        obtain ⟨cs', g1, g2⟩ := hel i (by omega)
        rw [cellsFile] at g1
        obtain ⟨_, hlen, hcell⟩ := World.cells?_some g1
        obtain ⟨f, rfl, hd⟩ := open_file hlen g2
        refine ⟨f, fun c hc => ?_, hd⟩
        have := hcell c hc
        rwa [Go.Deep.add_add] at this
      obtain ⟨F, hF⟩ := Go.Deep.choose_lt each
      refine ⟨_, (List.range len).map F, rfl, ?_, ?_⟩
      · by_cases h0 : len = 0
        · subst h0
          exact .inl ⟨some a, cap, rfl, rfl, hm⟩
        · have c0 := (hF 0 (by omega)).1 0 (by decide)
          obtain ⟨b, off, sp⟩ := a
          have hsp : sp = none := by
            cases sp with
            | none => rfl
            | some s => simp [World.cell?, Addr.add, fcells] at c0; split at c0 <;> simp at c0
          subst hsp
          have hblt : b < W.heap.size := World.block_lt_of_cell? W _ (show W.cell? ((⟨b, off, none⟩ : Addr).add (0 * 3 + 0)) = some _ from c0) |> fun h => by simpa [Addr.add] using h
          refine .inr ⟨b, off, cap, by simp, by simpa using hl, hm, hblt, by simp; omega, fun j u hj => ?_⟩
          have hjl : j < len * 3 := by
            have := (List.getElem?_eq_some_iff.1 hj).1
            rw [cellsF_length] at this
            simpa using this
          have hi : j / 3 < len := by omega
          have hg := cellsF_get ((List.range len).map F) (j / 3) (F (j / 3)) (by simp [hi]) (j % 3) (by omega)
          rw [show j / 3 * 3 + j % 3 = j by omega, hj] at hg
          have := (hF (j / 3) hi).1 (j % 3) (by omega)
          rw [show j / 3 * 3 + j % 3 = j by omega, Addr.add_lit, ← hg] at this
          exact this
      · intro M hM
        have hw : DataW.weights Tryz.prog 24 (.agg [.slice ((List.range len).map D) ((List.range (m - len)).map fun j => D (len + j))] : DataW H) =
            (len + (m - len)) * 48 :: (DataW.weightsAll Tryz.prog 72 ((List.range len).map D) ++ DataW.weightsAll Tryz.prog 72 ((List.range (m - len)).map fun j => D (len + j))) := by
          simp [DataW.weights, Tryz.underlying24, Tryz.underlying22, DataW.weightsEach, bytesFile]
        rw [hw] at hM
        refine ⟨fun f hf => ?_, ?_⟩
        · obtain ⟨i, hi, rfl⟩ := List.mem_map.1 hf
          have hi' : i < len := by simpa using hi
          have key : ∀ x ∈ DataW.weights Tryz.prog 72 (D i), x ≤ M := fun x hx => hM x (List.mem_cons_of_mem _ (List.mem_append.2 (.inl (weightsAll_mem _ (D i) x (List.mem_map.2 ⟨i, hi, rfl⟩) hx))))
          rw [(hF i hi').2, weights_file] at key
          exact ⟨key _ (by simp), key _ (by simp), key _ (by simp)⟩
        · have := hM _ (List.mem_cons_self ..)
          simp only [List.length_map, List.length_range]
          omega
theorem sized_disk {ts : List TypeId} {ds : List (DataW H)} (h : (DataW.weightsEach Tryz.prog ts ds).all (· ≤ reachBytes) = true) {j : Nat} {d : DataW H} (ht : ts[j]? = some 24) (hd : ds[j]? = some d) : ∀ x ∈ DataW.weights Tryz.prog 24 d, x ≤ 140737488351232 := by
  intro x hx
  have e : reachBytes = 140737488351232 := by decide
  have h1 := List.all_eq_true.1 h _ (DataW.weights_mem_each ht hd x hx)
  rw [e] at h1
  simpa using h1
end
end Go.Proofs.YtaoflcmeiaffjaaGreatDoor
