/-
  A disk as an argument: opened into its files; what its weights say of their lengths.
-/
import Derived.Test.YtbadhnmljlmefaaDQ
import Derived.ProofKit
import Derived.OpenShut
import Derived.SizedLaws
import Derived.Deep.Slices
import Derived.Carry
namespace Go.Proofs.Ytbadhnmljlmefaa
open Go.ChangeShapes Go.WideShapes Go.ChangeAt Go.RowKit Go.ChangeMaps

theorem cellsStr1 : Try.prog.cellsOf 9 = 1 := by kernel_rfl
theorem cellsFile : Try.prog.cellsOf 41 = 3 := by kernel_rfl
theorem cellsSl : Try.prog.cellsOf 22 = 1 := by kernel_rfl
theorem cellsDisk : Try.prog.cellsOf 24 = 1 := by kernel_rfl
theorem bytesFile : Try.prog.bytesOf 41 = 48 := by kernel_rfl
theorem laidOut : laidOutB Try.prog = true := by kernel_rfl
theorem list_of1 (s : ByteArray) : ∃ l : List UInt8, s = ⟨l.toArray⟩ := ⟨s.data.toList, rfl⟩

section
variable {H : Type} {enc : TypeId × Value → H} {W : World} {base : Nat} {spare : Nat → Bool} {held : Bool}
def fileD (f : DF) : DataW H := .agg [.lit (.string f.n), .lit (.string f.s), .lit (.string f.t)]
theorem open_file {n : Nat} {cs : List Value} {x : DataW H × List MemPlace} (hl : cs.length = 3) (h : DataW.trod enc Try.prog W base spare held n 41 cs = some x) : ∃ f : DF, cs = fcells f ∧ x.1 = fileD f := by
  match cs, hl with
  | [c0, c1, c2], _ =>
    obtain ⟨xs, k, _, hx, _, hlen, hfs⟩ := DataW.trod_struct Try.underlying41 h
    match xs, hlen with
    | [y0, y1, y2], _ =>
      obtain ⟨s0, e0, rfl, _⟩ := DataW.trod_string Try.underlying9 (show DataW.trod enc Try.prog W base spare held k 9 [c0] = some y0 by simpa [cellsStr1] using hfs 0 _ rfl)
      obtain ⟨s1, e1, rfl, _⟩ := DataW.trod_string Try.underlying9 (show DataW.trod enc Try.prog W base spare held k 9 [c1] = some y1 by simpa [cellsStr1] using hfs 1 _ rfl)
      obtain ⟨s2, e2, rfl, _⟩ := DataW.trod_string Try.underlying9 (show DataW.trod enc Try.prog W base spare held k 9 [c2] = some y2 by simpa [cellsStr1] using hfs 2 _ rfl)
      simp only [List.cons.injEq, and_true] at e0 e1 e2
      subst e0 e1 e2
      obtain ⟨l0, rfl⟩ := list_of1 s0
      obtain ⟨l1, rfl⟩ := list_of1 s1
      obtain ⟨l2, rfl⟩ := list_of1 s2
      subst hx
      exact ⟨⟨l0, l1, l2⟩, rfl, rfl⟩
theorem weights_file (f : DF) : DataW.weights Try.prog 41 (fileD f : DataW H) = [f.n.length, f.s.length, f.t.length] := by
  simp [DataW.weights, fileD, Try.underlying41, DataW.weightsEach]
theorem weightsAll_mem {e : TypeId} : ∀ (l : List (DataW H)) (d : DataW H) (x : Nat), d ∈ l → x ∈ DataW.weights Try.prog e d → x ∈ DataW.weightsAll Try.prog e l
  | d' :: r, d, x, h, hx => by
    rw [DataW.weightsAll]
    rcases List.mem_cons.1 h with rfl | h
    · exact List.mem_append.2 (.inl hx)
    · exact List.mem_append.2 (.inr (weightsAll_mem r d x h hx))
instance : Inhabited (DataW H) := ⟨.nil⟩

theorem open_disk {r : Reach} {b0 : Nat} {v : Value} {d : DataW H} {p : List MemPlace}
    (hv : Value.okWide Try.prog W r b0 24 v) (h : DataW.Trod enc Try.prog W base spare held 24 v d p) :
    ∃ c fs, v = .agg #[c] ∧ DiskV W c fs ∧ ∀ M, (∀ x ∈ DataW.weights Try.prog 24 d, x ≤ M) → (∀ f ∈ fs, f.n.length ≤ M ∧ f.s.length ≤ M ∧ f.t.length ≤ M) ∧ fs.length * 48 ≤ M := by
  obtain ⟨cs, rfl, hsz⟩ := okWide_struct Try.underlying24 hv
  have hsz1 : cs.size = 1 := hsz.trans cellsDisk
  obtain ⟨l⟩ := cs
  match l, hsz1 with
  | [c0], _ =>
    obtain ⟨fuel, hf⟩ := h
    obtain ⟨y0, n, hx, _, hy⟩ := trod_struct1 Try.underlying24 hf
    have hy' : DataW.trod enc Try.prog W base spare held n 22 [c0] = some y0 := by simpa [Value.cells, cellsSl] using hy
    simp only [Prod.mk.injEq] at hx
    obtain ⟨rfl, rfl⟩ := hx
    rcases Go.Deep.open_slice Try.underlying22 hy' with ⟨h1, rfl⟩ | ⟨a, len, cap, m, k, D, Pl, h1, hb, hl, hm, hmm, rfl, hel⟩
    · simp only [List.cons.injEq, and_true] at h1
      subst h1
      exact ⟨_, [], rfl, DiskV.nil W, fun M _ => ⟨by simp, by simp⟩⟩
    · simp only [List.cons.injEq, and_true] at h1
      subst h1
      have hlm : len ≤ m := by rw [hmm]; split <;> omega
      have each : ∀ i, i < len → ∃ f : DF, (∀ c, c < 3 → W.cell? (a.add (i * 3 + c)) = (fcells f)[c]?) ∧ D i = fileD f := by
        intro i hi
        obtain ⟨cs', g1, g2⟩ := hel i (by omega)
        rw [cellsFile] at g1
        obtain ⟨_, hlen, hcell⟩ := World.cells?_some g1
        obtain ⟨f, rfl, hd⟩ := open_file hlen g2
        refine ⟨f, fun c hc => ?_, hd⟩
        have := hcell c hc
        rwa [Go.Deep.add_add] at this
      obtain ⟨F, hF⟩ := Go.Deep.choose_lt each
      refine ⟨_, (List.range len).map F, rfl, ?_, ?_⟩
      · by_cases h0 : len = 0
        · subst h0
          exact .inl ⟨some a, cap, rfl, rfl, hm⟩
        · have c0 := (hF 0 (by omega)).1 0 (by decide)
          obtain ⟨b, off, sp⟩ := a
          have hsp : sp = none := by
            cases sp with
            | none => rfl
            | some s => simp [World.cell?, Addr.add, fcells] at c0; split at c0 <;> simp at c0
          subst hsp
          have hblt : b < W.heap.size := World.block_lt_of_cell? W _ (show W.cell? ((⟨b, off, none⟩ : Addr).add (0 * 3 + 0)) = some _ from c0) |> fun h => by simpa [Addr.add] using h
          refine .inr ⟨b, off, cap, by simp, by simpa using hl, hm, hblt, by simp; omega, fun j u hj => ?_⟩
          have hjl : j < len * 3 := by
            have := (List.getElem?_eq_some_iff.1 hj).1
            rw [cellsF_length] at this
            simpa using this
          have hi : j / 3 < len := by omega
          have hg := cellsF_get ((List.range len).map F) (j / 3) (F (j / 3)) (by simp [hi]) (j % 3) (by omega)
          rw [show j / 3 * 3 + j % 3 = j by omega, hj] at hg
          have := (hF (j / 3) hi).1 (j % 3) (by omega)
          rw [show j / 3 * 3 + j % 3 = j by omega, Addr.add_lit, ← hg] at this
          exact this
      · intro M hM
        have hw : DataW.weights Try.prog 24 (.agg [.slice ((List.range len).map D) ((List.range (m - len)).map fun j => D (len + j))] : DataW H) =
            (len + (m - len)) * 48 :: (DataW.weightsAll Try.prog 41 ((List.range len).map D) ++ DataW.weightsAll Try.prog 41 ((List.range (m - len)).map fun j => D (len + j))) := by
          simp [DataW.weights, Try.underlying24, Try.underlying22, DataW.weightsEach, bytesFile]
        rw [hw] at hM
        refine ⟨fun f hf => ?_, ?_⟩
        · obtain ⟨i, hi, rfl⟩ := List.mem_map.1 hf
          have hi' : i < len := by simpa using hi
          have key : ∀ x ∈ DataW.weights Try.prog 41 (D i), x ≤ M := fun x hx => hM x (List.mem_cons_of_mem _ (List.mem_append.2 (.inl (weightsAll_mem _ (D i) x (List.mem_map.2 ⟨i, hi, rfl⟩) hx))))
          rw [(hF i hi').2, weights_file] at key
          exact ⟨key _ (by simp), key _ (by simp), key _ (by simp)⟩
        · have := hM _ (List.mem_cons_self ..)
          simp only [List.length_map, List.length_range]
          omega
theorem sized_disk {ts : List TypeId} {ds : List (DataW H)} (h : (DataW.weightsEach Try.prog ts ds).all (· ≤ reachBytes) = true) {j : Nat} {d : DataW H} (ht : ts[j]? = some 24) (hd : ds[j]? = some d) : ∀ x ∈ DataW.weights Try.prog 24 d, x ≤ 140737488351232 := by
  intro x hx
  have e : reachBytes = 140737488351232 := by decide
  have h1 := List.all_eq_true.1 h _ (DataW.weights_mem_each ht hd x hx)
  rw [e] at h1
  simpa using h1
end
end Go.Proofs.Ytbadhnmljlmefaa
