/-
  Lists of watches and of events, and one watch, as arguments: opened into plain lists; what their weights and their bulk say of their lengths.
-/
import Derived.Test.YtppmkgehdblbdaaDoorHA
import Derived.Test.YtppmkgehdblbdaaDoorRows
import Derived.ProofKit
import Derived.OpenShut
import Derived.SizedLaws
import Derived.Deep.Slices
import Derived.Carry
namespace Go.Proofs.YtppmkgehdblbdaaDoor
open Go.ChangeShapes Go.WideShapes Go.ChangeAt Go.RowKit Go.ChangeMaps

theorem hcellsStr : Tryd.prog.cellsOf 9 = 1 := by kernel_rfl
theorem hcellsInt : Tryd.prog.cellsOf 3 = 1 := by kernel_rfl
theorem hcellsW : Tryd.prog.cellsOf 24 = 3 := by kernel_rfl
theorem hcellsE : Tryd.prog.cellsOf 43 = 2 := by kernel_rfl
theorem hbytesW : Tryd.prog.bytesOf 24 = 32 := by kernel_rfl
theorem hbytesE : Tryd.prog.bytesOf 43 = 24 := by kernel_rfl
theorem hlaidOut : laidOutB Tryd.prog = true := by kernel_rfl
theorem hlist_of (s : ByteArray) : ∃ l : List UInt8, s = ⟨l.toArray⟩ := ⟨s.data.toList, rfl⟩

section
variable {H : Type} {enc : TypeId × Value → H} {W : World} {base : Nat} {spare : Nat → Bool} {held : Bool}
def waD (x : Wa) : DataW H := .agg [.lit (.int .i64 x.s), .lit (.int .i64 x.k), .lit (.string x.p)]
def evD (x : Ev) : DataW H := .agg [.lit (.int .i64 x.k), .lit (.string x.p)]
structure WaOk (t : Wa) : Prop where
  s : (Lit.int .i64 t.s).wf = true
  k : (Lit.int .i64 t.k).wf = true
  p : (ByteArray.mk t.p.toArray).size ≤ maxLen
theorem hopen_w {n : Nat} {cs : List Value} {x : DataW H × List MemPlace} (hl : cs.length = 3) (h : DataW.trod enc Tryd.prog W base spare held n 24 cs = some x) : ∃ f : Wa, cs = wcells f ∧ x = (waD f, []) ∧ WaOk f := by
  match cs, hl with
  | [c0, c1, c2], _ =>
    obtain ⟨xs, k, _, hx, _, hlen, hfs⟩ := DataW.trod_struct Tryd.underlying24 h
    match xs, hlen with
    | [y0, y1, y2], _ =>
      obtain ⟨i0, e0, rfl, w0⟩ := DataW.trod_int Tryd.underlying3 (show DataW.trod enc Tryd.prog W base spare held k 3 [c0] = some y0 by simpa [hcellsInt] using hfs 0 _ rfl)
      obtain ⟨i1, e1, rfl, w1⟩ := DataW.trod_int Tryd.underlying3 (show DataW.trod enc Tryd.prog W base spare held k 3 [c1] = some y1 by simpa [hcellsInt] using hfs 1 _ rfl)
      obtain ⟨s2, e2, rfl, w2⟩ := DataW.trod_string Tryd.underlying9 (show DataW.trod enc Tryd.prog W base spare held k 9 [c2] = some y2 by simpa [hcellsStr] using hfs 2 _ rfl)
      simp only [List.cons.injEq, and_true] at e0 e1 e2
      subst e0 e1 e2
      obtain ⟨l2, rfl⟩ := hlist_of s2
      subst hx
      exact ⟨⟨i0, i1, l2⟩, rfl, rfl, ⟨w0, w1, w2⟩⟩
theorem hopen_e {n : Nat} {cs : List Value} {x : DataW H × List MemPlace} (hl : cs.length = 2) (h : DataW.trod enc Tryd.prog W base spare held n 43 cs = some x) : ∃ f : Ev, cs = ecells f ∧ x.1 = evD f := by
  match cs, hl with
  | [c0, c1], _ =>
    obtain ⟨xs, k, _, hx, _, hlen, hfs⟩ := DataW.trod_struct Tryd.underlying43 h
    match xs, hlen with
    | [y0, y1], _ =>
      obtain ⟨i0, e0, rfl, _⟩ := DataW.trod_int Tryd.underlying3 (show DataW.trod enc Tryd.prog W base spare held k 3 [c0] = some y0 by simpa [hcellsInt] using hfs 0 _ rfl)
      obtain ⟨s1, e1, rfl, _⟩ := DataW.trod_string Tryd.underlying9 (show DataW.trod enc Tryd.prog W base spare held k 9 [c1] = some y1 by simpa [hcellsStr] using hfs 1 _ rfl)
      simp only [List.cons.injEq, and_true] at e0 e1
      subst e0 e1
      obtain ⟨l1, rfl⟩ := hlist_of s1
      subst hx
      exact ⟨⟨i0, l1⟩, rfl, rfl⟩
theorem weights_wa (x : Wa) : DataW.weights Tryd.prog 24 (waD x : DataW H) = [x.p.length] := by
  simp [DataW.weights, waD, Tryd.underlying24, DataW.weightsEach]
theorem weights_ev (x : Ev) : DataW.weights Tryd.prog 43 (evD x : DataW H) = [x.p.length] := by
  simp [DataW.weights, evD, Tryd.underlying43, DataW.weightsEach]
theorem hweightsAll_mem {e : TypeId} : ∀ (l : List (DataW H)) (d : DataW H) (x : Nat), d ∈ l → x ∈ DataW.weights Tryd.prog e d → x ∈ DataW.weightsAll Tryd.prog e l
  | d' :: r, d, x, h, hx => by
    rw [DataW.weightsAll]
    rcases List.mem_cons.1 h with rfl | h
    · exact List.mem_append.2 (.inl hx)
    · exact List.mem_append.2 (.inr (hweightsAll_mem r d x h hx))
theorem bulk_pos (d : DataW H) : 1 ≤ Rows.uptoBulk d := by
  cases d with
  | lit l => cases l <;> simp [Rows.uptoBulk]
  | _ => simp [Rows.uptoBulk]
theorem bulk_len : ∀ l : List (DataW H), l.length ≤ Rows.uptoBulkAll l
  | [] => by simp
  | d :: r => by
    have := bulk_len r
    have := bulk_pos d
    simp only [List.length_cons, Rows.uptoBulkAll]
    omega

set_option maxRecDepth 10000 in
/-- a slice of elements that are laid in a row -/
theorem open_seq {α : Type} [Lay α] (al : α) {T E : TypeId} (hU : Tryd.prog.underlying T = some (.slice E)) (hk : Tryd.prog.cellsOf E = Lay.k α) (hk0 : 0 < Lay.k α) {bytes : Nat} (hby : Tryd.prog.bytesOf E = bytes) (dat : α → DataW H) (len1 : α → Nat)
    (hw : ∀ x, DataW.weights Tryd.prog E (dat x) = [len1 x])
    (ho : ∀ {n : Nat} {cs : List Value} {x : DataW H × List MemPlace}, cs.length = Lay.k α → DataW.trod enc Tryd.prog W base spare held n E cs = some x → ∃ f : α, cs = Lay.cs f ∧ x.1 = dat f)
    {r : Reach} {b0 : Nat} {v : Value} {d : DataW H} {p : List MemPlace}
    (hv : Value.okWide Tryd.prog W r b0 T v) (h : DataW.Trod enc Tryd.prog W base spare held T v d p) :
    ∃ xs : List α, SeqV W v xs ∧ xs.length + 1 ≤ Rows.uptoBulk d ∧ ∀ M, (∀ x ∈ DataW.weights Tryd.prog T d, x ≤ M) → (∀ f ∈ xs, len1 f ≤ M) ∧ xs.length * bytes ≤ M := by
  obtain ⟨fuel, hf⟩ := h
  obtain ⟨sa, sl, sc, rfl⟩ := okWide_slice hU hv
  have hf' : DataW.trod enc Tryd.prog W base spare held fuel T [.slice sa sl sc] = some (d, p) := by simpa [Value.cells] using hf
  clear hf
  rcases Go.Deep.open_slice hU hf' with ⟨h1, hx⟩ | ⟨a, len, cap, m, k, D, Pl, h1, hb, hl, hm, hmm, hx, hel⟩
  · simp only [List.cons.injEq, and_true] at h1
    rw [h1]
    exact ⟨[], SeqV.nil W, by have := bulk_pos d; simpa using this, fun M _ => ⟨by simp, by simp⟩⟩
  · simp only [List.cons.injEq, and_true] at h1
    rw [h1]
    simp only [Prod.mk.injEq] at hx
    obtain ⟨rfl, _⟩ := hx
    have hlm : len ≤ m := by rw [hmm]; split <;> omega
    have each : ∀ i, i < len → ∃ f : α, (∀ c, c < Lay.k α → W.cell? (a.add (i * Lay.k α + c)) = (Lay.cs f)[c]?) ∧ D i = dat f := by
      intro i hi
      obtain ⟨cs', g1, g2⟩ := hel i (by omega)
      rw [hk] at g1
      obtain ⟨_, hlen, hcell⟩ := World.cells?_some g1
      obtain ⟨f, rfl, hd⟩ := ho hlen g2
      refine ⟨f, fun c hc => ?_, hd⟩
      have := hcell c hc
      rwa [Go.Deep.add_add] at this
    have : Inhabited α := ⟨al⟩
    obtain ⟨F, hF⟩ := Go.Deep.choose_lt each
    refine ⟨(List.range len).map F, ?_, ?_, ?_⟩
    · by_cases h0 : len = 0
      · subst h0
        exact .inl ⟨some a, cap, rfl, rfl, hm⟩
      · have c0 := (hF 0 (by omega)).1 0 hk0
        obtain ⟨y, hy⟩ : ∃ y, (Lay.cs (F 0))[0]? = some y := ⟨_, List.getElem?_eq_getElem (by rw [Lay.len]; exact hk0)⟩
        rw [hy] at c0
        obtain ⟨b, off, sp⟩ := a
        have hsp : sp = none := by
          cases sp with
          | none => rfl
          | some s => simp [World.cell?, Addr.add] at c0; split at c0 <;> simp at c0
        subst hsp
        have hblt : b < W.heap.size := World.block_lt_of_cell? W _ (show W.cell? ((⟨b, off, none⟩ : Addr).add (0 * Lay.k α + 0)) = some _ from c0) |> fun h => by simpa [Addr.add] using h
        refine .inr ⟨b, off, cap, by simp, by simpa using hl, hm, hblt, by simp; omega, fun j u hj => ?_⟩
        have hjl : j < len * Lay.k α := by
          have := (List.getElem?_eq_some_iff.1 hj).1
          rw [cellsL_length, List.length_map, List.length_range] at this
          exact this
        have hi : j / Lay.k α < len := Nat.div_lt_of_lt_mul (by rw [Nat.mul_comm]; exact hjl)
        have hm' : j % Lay.k α < Lay.k α := Nat.mod_lt _ hk0
        have hdm : j / Lay.k α * Lay.k α + j % Lay.k α = j := by rw [Nat.mul_comm]; exact Nat.div_add_mod j _
        have hg := cellsL_get ((List.range len).map F) (j / Lay.k α) (F (j / Lay.k α)) (by rw [List.getElem?_map, List.getElem?_range hi]; rfl) (j % Lay.k α) hm'
        rw [hdm, hj] at hg
        have := (hF (j / Lay.k α) hi).1 (j % Lay.k α) hm'
        rw [hdm, Addr.add_lit, ← hg] at this
        exact this
    · have := bulk_len ((List.range len).map D)
      simp only [List.length_map, List.length_range, Rows.uptoBulk] at this ⊢
      omega
    · intro M hM
      have hw' : DataW.weights Tryd.prog T (.slice ((List.range len).map D) ((List.range (m - len)).map fun j => D (len + j)) : DataW H) =
          (len + (m - len)) * bytes :: (DataW.weightsAll Tryd.prog E ((List.range len).map D) ++ DataW.weightsAll Tryd.prog E ((List.range (m - len)).map fun j => D (len + j))) := by
        simp [DataW.weights, hU, hby]
      rw [hw'] at hM
      refine ⟨fun f hf => ?_, ?_⟩
      · obtain ⟨i, hi, rfl⟩ := List.mem_map.1 hf
        have hi' : i < len := by simpa using hi
        have key : ∀ x ∈ DataW.weights Tryd.prog E (D i), x ≤ M := fun x hx => hM x (List.mem_cons_of_mem _ (List.mem_append.2 (.inl (hweightsAll_mem _ (D i) x (List.mem_map.2 ⟨i, hi, rfl⟩) hx))))
        rw [(hF i hi').2, hw] at key
        exact key _ (by simp)
      · have := hM _ (List.mem_cons_self ..)
        simp only [List.length_map, List.length_range]
        exact Nat.le_trans (Nat.mul_le_mul_right _ (by omega)) this
theorem open_watches {r : Reach} {b0 : Nat} {v : Value} {d : DataW H} {p : List MemPlace} (hv : Value.okWide Tryd.prog W r b0 22 v) (h : DataW.Trod enc Tryd.prog W base spare held 22 v d p) :
    ∃ xs : List Wa, SeqV W v xs ∧ xs.length + 1 ≤ Rows.uptoBulk d ∧ ∀ M, (∀ x ∈ DataW.weights Tryd.prog 22 d, x ≤ M) → (∀ f ∈ xs, f.p.length ≤ M) ∧ xs.length * 32 ≤ M :=
  open_seq (⟨0, 0, []⟩ : Wa) Tryd.underlying22 hcellsW (by decide) hbytesW waD (fun f => f.p.length) weights_wa (fun hl h => by obtain ⟨f, h1, h2, _⟩ := hopen_w hl h; exact ⟨f, h1, by rw [h2]⟩) hv h
theorem open_events {r : Reach} {b0 : Nat} {v : Value} {d : DataW H} {p : List MemPlace} (hv : Value.okWide Tryd.prog W r b0 44 v) (h : DataW.Trod enc Tryd.prog W base spare held 44 v d p) :
    ∃ xs : List Ev, SeqV W v xs ∧ xs.length + 1 ≤ Rows.uptoBulk d ∧ ∀ M, (∀ x ∈ DataW.weights Tryd.prog 44 d, x ≤ M) → (∀ f ∈ xs, f.p.length ≤ M) ∧ xs.length * 24 ≤ M :=
  open_seq (⟨0, []⟩ : Ev) Tryd.underlying44 hcellsE (by decide) hbytesE evD (fun f => f.p.length) weights_ev hopen_e hv h
theorem hsized {ts : List TypeId} {ds : List (DataW H)} (h : (DataW.weightsEach Tryd.prog ts ds).all (· ≤ reachBytes) = true) {j : Nat} {T : TypeId} {d : DataW H} (ht : ts[j]? = some T) (hd : ds[j]? = some d) : ∀ x ∈ DataW.weights Tryd.prog T d, x ≤ 140737488351232 := by
  intro x hx
  have e : reachBytes = 140737488351232 := by decide
  have h1 := List.all_eq_true.1 h _ (DataW.weights_mem_each ht hd x hx)
  rw [e] at h1
  simpa using h1
/-- one watch -/
theorem open_watch {r : Reach} {b0 : Nat} {v : Value} {d : DataW H} {p : List MemPlace} (hv : Value.okWide Tryd.prog W r b0 24 v) (h : DataW.Trod enc Tryd.prog W base spare held 24 v d p) :
    ∃ t : Wa, v = waV t ∧ d = waD t ∧ p = [] ∧ WaOk t := by
  obtain ⟨cs, rfl, hsz⟩ := okWide_struct Tryd.underlying24 hv
  have hsz3 : cs.toList.length = 3 := hsz.trans hcellsW
  obtain ⟨fuel, hf⟩ := h
  obtain ⟨f, h1, h2, h3⟩ := hopen_w hsz3 (show DataW.trod enc Tryd.prog W base spare held fuel 24 cs.toList = some (d, p) by simpa [Value.cells] using hf)
  simp only [Prod.mk.injEq] at h2
  refine ⟨f, ?_, h2.1, h2.2, h3⟩
  obtain ⟨l⟩ := cs
  simp only at h1
  subst h1
  rfl
theorem shut_watch {t : Wa} (h : WaOk t) : DataW.Trod enc Tryd.prog W base spare held 24 (waV t) (waD t) [] := by
  have i : ∀ x : Int, (Lit.int .i64 x).wf = true → DataW.trod enc Tryd.prog W base spare held 1 3 [.int .i64 x] = some (.lit (.int .i64 x), []) := fun x hx => by simp [DataW.trod, Tryd.underlying3, hx]
  have g : ∀ l : List UInt8, (ByteArray.mk l.toArray).size ≤ maxLen → DataW.trod enc Tryd.prog W base spare held 1 9 [.string ⟨l.toArray⟩] = some (.lit (.string l), []) := fun l hl => by simp [DataW.trod, Tryd.underlying9, hl]
  have := trod_struct_mk (enc := enc) (w := W) (base := base) (spare := spare) (held := held) (n := 1) (cs := [.int .i64 t.s, .int .i64 t.k, .string ⟨t.p.toArray⟩])
    (xs := [(.lit (.int .i64 t.s), []), (.lit (.int .i64 t.k), []), (.lit (.string t.p), [])])
    Tryd.underlying24 hcellsW.symm (by simp [hcellsInt, hcellsStr, i _ h.s, i _ h.k, g _ h.p])
  exact ⟨2, by simpa [Value.cells, waV, waD] using this⟩
end
end Go.Proofs.YtppmkgehdblbdaaDoor
