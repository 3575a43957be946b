/-
  A disk as an argument: opened into its files; what its weights say of their lengths.
  How a log lies in memory: a row of transactions, seven cells each; a row of the call's own; what stays when other memory turns.
  A log on a disk, as plain lists: what is recovered, what is kept. No walk is here.
  What wal.Last and wal.follows answer: the walks.
  What wal.Scan answers, over what wire.Decode does: the walk.
  That aviarykeep.sameLog and aviaryref.SameLog say yes of two logs that are alike: the walks.
  A transaction as an argument: opened into its seven fields, and read again.
  A log as an argument: opened into its transactions; what its weights say of their lengths.
-/
import Derived.Test.YtpoblkionpgljaaDoorME
import Derived.ProofKit
import Derived.OpenShut
import Derived.SizedLaws
import Derived.Deep.Slices
import Derived.Carry
import Derived.Test.YtpoblkionpgljaaDoorMA
import Derived.Test.YtpoblkionpgljaaDoorMD
import Derived.Test.YtpoblkionpgljaaDoorRows
import Derived.WalkSpells
import Derived.WalkLawsBesides
import Derived.Deep.RegionHeld3
import Derived.Deep.RegionLaw
import Derived.Test.YtpoblkionpgljaaDoorMC
import Derived.Test.YtpoblkionpgljaaDoorMB
namespace Go.Proofs.YtpoblkionpgljaaDoor
open Go.ChangeShapes Go.WideShapes Go.ChangeAt Go.RowKit Go.ChangeMaps

theorem cellsStr1 : Tryd.prog.cellsOf 9 = 1 := by kernel_rfl
theorem cellsFile : Tryd.prog.cellsOf 62 = 3 := by kernel_rfl
theorem cellsSl : Tryd.prog.cellsOf 33 = 1 := by kernel_rfl
theorem cellsDisk : Tryd.prog.cellsOf 35 = 1 := by kernel_rfl
theorem bytesFile : Tryd.prog.bytesOf 62 = 48 := by kernel_rfl
theorem laidOut : laidOutB Tryd.prog = true := by kernel_rfl
theorem list_of1 (s : ByteArray) : ∃ l : List UInt8, s = ⟨l.toArray⟩ := ⟨s.data.toList, rfl⟩

section
variable {H : Type} {enc : TypeId × Value → H} {W : World} {base : Nat} {spare : Nat → Bool} {held : Bool}
def fileD (f : DF) : DataW H := .agg [.lit (.string f.n), .lit (.string f.s), .lit (.string f.t)]
theorem open_file {n : Nat} {cs : List Value} {x : DataW H × List MemPlace} (hl : cs.length = 3) (h : DataW.trod enc Tryd.prog W base spare held n 62 cs = some x) : ∃ f : DF, cs = fcells f ∧ x.1 = fileD f := by
  match cs, hl with
  | [c0, c1, c2], _ =>
    obtain ⟨xs, k, _, hx, _, hlen, hfs⟩ := DataW.trod_struct Tryd.underlying62 h
    match xs, hlen with
    | [y0, y1, y2], _ =>
      obtain ⟨s0, e0, rfl, _⟩ := DataW.trod_string Tryd.underlying9 (show DataW.trod enc Tryd.prog W base spare held k 9 [c0] = some y0 by simpa [cellsStr1] using hfs 0 _ rfl)
      obtain ⟨s1, e1, rfl, _⟩ := DataW.trod_string Tryd.underlying9 (show DataW.trod enc Tryd.prog W base spare held k 9 [c1] = some y1 by simpa [cellsStr1] using hfs 1 _ rfl)
      obtain ⟨s2, e2, rfl, _⟩ := DataW.trod_string Tryd.underlying9 (show DataW.trod enc Tryd.prog W base spare held k 9 [c2] = some y2 by simpa [cellsStr1] using hfs 2 _ rfl)
      simp only [List.cons.injEq, and_true] at e0 e1 e2
      subst e0 e1 e2
      obtain ⟨l0, rfl⟩ := list_of1 s0
      obtain ⟨l1, rfl⟩ := list_of1 s1
      obtain ⟨l2, rfl⟩ := list_of1 s2
      subst hx
      exact ⟨⟨l0, l1, l2⟩, rfl, rfl⟩
theorem weights_file (f : DF) : DataW.weights Tryd.prog 62 (fileD f : DataW H) = [f.n.length, f.s.length, f.t.length] := by
  simp [DataW.weights, fileD, Tryd.underlying62, DataW.weightsEach]
theorem weightsAll_mem {e : TypeId} : ∀ (l : List (DataW H)) (d : DataW H) (x : Nat), d ∈ l → x ∈ DataW.weights Tryd.prog e d → x ∈ DataW.weightsAll Tryd.prog e l
  | d' :: r, d, x, h, hx => by
    rw [DataW.weightsAll]
    rcases List.mem_cons.1 h with rfl | h
    · exact List.mem_append.2 (.inl hx)
    · exact List.mem_append.2 (.inr (weightsAll_mem r d x h hx))
instance : Inhabited (DataW H) := ⟨.nil⟩

set_option maxRecDepth 10000 in
theorem open_disk {r : Reach} {b0 : Nat} {v : Value} {d : DataW H} {p : List MemPlace}
    (hv : Value.okWide Tryd.prog W r b0 35 v) (h : DataW.Trod enc Tryd.prog W base spare held 35 v d p) :
    ∃ c fs, v = .agg #[c] ∧ DiskV W c fs ∧ ∀ M, (∀ x ∈ DataW.weights Tryd.prog 35 d, x ≤ M) → (∀ f ∈ fs, f.n.length ≤ M ∧ f.s.length ≤ M ∧ f.t.length ≤ M) ∧ fs.length * 48 ≤ M := by
  obtain ⟨cs, rfl, hsz⟩ := okWide_struct Tryd.underlying35 hv
  have hsz1 : cs.size = 1 := hsz.trans cellsDisk
  obtain ⟨l⟩ := cs
  match l, hsz1 with
  | [c0], _ =>
    obtain ⟨fuel, hf⟩ := h
    obtain ⟨y0, n, hx, _, hy⟩ := trod_struct1 Tryd.underlying35 hf
    have hy' : DataW.trod enc Tryd.prog W base spare held n 33 [c0] = some y0 := by simpa [Value.cells, cellsSl] using hy
    simp only [Prod.mk.injEq] at hx
    obtain ⟨rfl, rfl⟩ := hx
    rcases Go.Deep.open_slice Tryd.underlying33 hy' with ⟨h1, rfl⟩ | ⟨a, len, cap, m, k, D, Pl, h1, hb, hl, hm, hmm, rfl, hel⟩
    · simp only [List.cons.injEq, and_true] at h1
      subst h1
      exact ⟨_, [], rfl, DiskV.nil W, fun M _ => ⟨by simp, by simp⟩⟩
    · simp only [List.cons.injEq, and_true] at h1
      subst h1
      have hlm : len ≤ m := by rw [hmm]; split <;> omega
      have each : ∀ i, i < len → ∃ f : DF, (∀ c, c < 3 → W.cell? (a.add (i * 3 + c)) = (fcells f)[c]?) ∧ D i = fileD f := by
        intro i hi
        obtain ⟨cs', g1, g2⟩ := hel i (by omega)
        rw [cellsFile] at g1
        obtain ⟨_, hlen, hcell⟩ := World.cells?_some g1
        obtain ⟨f, rfl, hd⟩ := open_file hlen g2
        refine ⟨f, fun c hc => ?_, hd⟩
        have := hcell c hc
        rwa [Go.Deep.add_add] at this
      obtain ⟨F, hF⟩ := Go.Deep.choose_lt each
      refine ⟨_, (List.range len).map F, rfl, ?_, ?_⟩
      · by_cases h0 : len = 0
        · subst h0
          exact .inl ⟨some a, cap, rfl, rfl, hm⟩
        · have c0 := (hF 0 (by omega)).1 0 (by decide)
          obtain ⟨b, off, sp⟩ := a
          have hsp : sp = none := by
            cases sp with
            | none => rfl
            | some s => simp [World.cell?, Addr.add, fcells] at c0; split at c0 <;> simp at c0
          subst hsp
          have hblt : b < W.heap.size := World.block_lt_of_cell? W _ (show W.cell? ((⟨b, off, none⟩ : Addr).add (0 * 3 + 0)) = some _ from c0) |> fun h => by simpa [Addr.add] using h
          refine .inr ⟨b, off, cap, by simp, by simpa using hl, hm, hblt, by simp; omega, fun j u hj => ?_⟩
          have hjl : j < len * 3 := by
            have := (List.getElem?_eq_some_iff.1 hj).1
            rw [cellsF_length] at this
            simpa using this
          have hi : j / 3 < len := by omega
          have hg := cellsF_get ((List.range len).map F) (j / 3) (F (j / 3)) (by simp [hi]) (j % 3) (by omega)
          rw [show j / 3 * 3 + j % 3 = j by omega, hj] at hg
          have := (hF (j / 3) hi).1 (j % 3) (by omega)
          rw [show j / 3 * 3 + j % 3 = j by omega, Addr.add_lit, ← hg] at this
          exact this
      · intro M hM
        have hw : DataW.weights Tryd.prog 35 (.agg [.slice ((List.range len).map D) ((List.range (m - len)).map fun j => D (len + j))] : DataW H) =
            (len + (m - len)) * 48 :: (DataW.weightsAll Tryd.prog 62 ((List.range len).map D) ++ DataW.weightsAll Tryd.prog 62 ((List.range (m - len)).map fun j => D (len + j))) := by
          simp [DataW.weights, Tryd.underlying35, Tryd.underlying33, DataW.weightsEach, bytesFile]
        rw [hw] at hM
        refine ⟨fun f hf => ?_, ?_⟩
        · obtain ⟨i, hi, rfl⟩ := List.mem_map.1 hf
          have hi' : i < len := by simpa using hi
          have key : ∀ x ∈ DataW.weights Tryd.prog 62 (D i), x ≤ M := fun x hx => hM x (List.mem_cons_of_mem _ (List.mem_append.2 (.inl (weightsAll_mem _ (D i) x (List.mem_map.2 ⟨i, hi, rfl⟩) hx))))
          rw [(hF i hi').2, weights_file] at key
          exact ⟨key _ (by simp), key _ (by simp), key _ (by simp)⟩
        · have := hM _ (List.mem_cons_self ..)
          simp only [List.length_map, List.length_range]
          omega
theorem sized_disk {ts : List TypeId} {ds : List (DataW H)} (h : (DataW.weightsEach Tryd.prog ts ds).all (· ≤ reachBytes) = true) {j : Nat} {d : DataW H} (ht : ts[j]? = some 35) (hd : ds[j]? = some d) : ∀ x ∈ DataW.weights Tryd.prog 35 d, x ≤ 140737488351232 := by
  intro x hx
  have e : reachBytes = 140737488351232 := by decide
  have h1 := List.all_eq_true.1 h _ (DataW.weights_mem_each ht hd x hx)
  rw [e] at h1
  simpa using h1
end
end Go.Proofs.YtpoblkionpgljaaDoor

namespace Go.Proofs.YtpoblkionpgljaaDoor
open Go.RowKit

def tcells (t : WTxn) : List Value := [.int .i64 t.z, .int .i64 t.o, .int .i64 t.s, .string ⟨t.p.toArray⟩, .string ⟨t.d.toArray⟩, .int .i64 t.v, .int .i64 t.w]
def cellsT : List WTxn → List Value
  | [] => []
  | t :: r => tcells t ++ cellsT r
theorem cellsT_length : ∀ ts : List WTxn, (cellsT ts).length = ts.length * 7
  | [] => rfl
  | t :: r => by rw [cellsT, List.length_append, cellsT_length r]; simp [tcells]; omega
theorem cellsT_append : ∀ a b : List WTxn, cellsT (a ++ b) = cellsT a ++ cellsT b
  | [], _ => rfl
  | t :: r, b => by rw [List.cons_append, cellsT, cellsT, cellsT_append r b, List.append_assoc]
theorem cellsT_snoc (a : List WTxn) (t : WTxn) : cellsT (a ++ [t]) = cellsT a ++ tcells t := by rw [cellsT_append, cellsT, cellsT, List.append_nil]
theorem cellsT_get : ∀ (ts : List WTxn) (i : Nat) (t : WTxn), ts[i]? = some t → ∀ c, c < 7 → (cellsT ts)[i * 7 + c]? = (tcells t)[c]?
  | [], i, t, h, _, _ => by simp at h
  | x :: r, 0, t, h, c, hc => by
    simp at h
    subst h
    rw [cellsT, List.getElem?_append_left (by simp [tcells]; omega)]
    simp
  | x :: r, i + 1, t, h, c, hc => by
    rw [cellsT, List.getElem?_append_right (by simp [tcells]; omega), ← cellsT_get r i t (by simpa using h) c hc]
    congr 1
    simp [tcells]; omega
theorem tcells_one (t : WTxn) : ∀ u ∈ tcells t, u.oneCell' = true := by
  intro u hu
  simp [tcells] at hu
  rcases hu with rfl | rfl | rfl | rfl | rfl | rfl | rfl <;> rfl

theorem RowAt.z {w : World} {b off : Nat} {ts : List WTxn} (h : RowAt w b off (cellsT ts)) {i : Nat} {t : WTxn} (hi : ts[i]? = some t) : w.cell? ⟨b, off + i * 7, none⟩ = some (.int .i64 t.z) :=
  h (i * 7) _ (by have := cellsT_get ts i t hi 0 (by omega); simpa [tcells] using this)
theorem RowAt.o {w : World} {b off : Nat} {ts : List WTxn} (h : RowAt w b off (cellsT ts)) {i : Nat} {t : WTxn} (hi : ts[i]? = some t) : w.cell? ⟨b, off + i * 7 + 1, none⟩ = some (.int .i64 t.o) := by
  rw [Nat.add_assoc]; exact h (i * 7 + 1) _ (by have := cellsT_get ts i t hi 1 (by omega); simpa [tcells] using this)
theorem RowAt.s {w : World} {b off : Nat} {ts : List WTxn} (h : RowAt w b off (cellsT ts)) {i : Nat} {t : WTxn} (hi : ts[i]? = some t) : w.cell? ⟨b, off + i * 7 + 2, none⟩ = some (.int .i64 t.s) := by
  rw [Nat.add_assoc]; exact h (i * 7 + 2) _ (by have := cellsT_get ts i t hi 2 (by omega); simpa [tcells] using this)
theorem RowAt.p {w : World} {b off : Nat} {ts : List WTxn} (h : RowAt w b off (cellsT ts)) {i : Nat} {t : WTxn} (hi : ts[i]? = some t) : w.cell? ⟨b, off + i * 7 + 3, none⟩ = some (.string ⟨t.p.toArray⟩) := by
  rw [Nat.add_assoc]; exact h (i * 7 + 3) _ (by have := cellsT_get ts i t hi 3 (by omega); simpa [tcells] using this)
theorem RowAt.d {w : World} {b off : Nat} {ts : List WTxn} (h : RowAt w b off (cellsT ts)) {i : Nat} {t : WTxn} (hi : ts[i]? = some t) : w.cell? ⟨b, off + i * 7 + 4, none⟩ = some (.string ⟨t.d.toArray⟩) := by
  rw [Nat.add_assoc]; exact h (i * 7 + 4) _ (by have := cellsT_get ts i t hi 4 (by omega); simpa [tcells] using this)
theorem RowAt.v {w : World} {b off : Nat} {ts : List WTxn} (h : RowAt w b off (cellsT ts)) {i : Nat} {t : WTxn} (hi : ts[i]? = some t) : w.cell? ⟨b, off + i * 7 + 5, none⟩ = some (.int .i64 t.v) := by
  rw [Nat.add_assoc]; exact h (i * 7 + 5) _ (by have := cellsT_get ts i t hi 5 (by omega); simpa [tcells] using this)
theorem RowAt.w {w : World} {b off : Nat} {ts : List WTxn} (h : RowAt w b off (cellsT ts)) {i : Nat} {t : WTxn} (hi : ts[i]? = some t) : w.cell? ⟨b, off + i * 7 + 6, none⟩ = some (.int .i64 t.w) := by
  rw [Nat.add_assoc]; exact h (i * 7 + 6) _ (by have := cellsT_get ts i t hi 6 (by omega); simpa [tcells] using this)

/-- the value holds these transactions -/
def LogV (w : World) (v : Value) (ts : List WTxn) : Prop :=
  (∃ a cap, v = .slice a 0 cap ∧ ts = [] ∧ cap ≤ maxLen) ∨
  ∃ b off cap, v = .slice (some ⟨b, off, none⟩) ts.length cap ∧ ts.length ≤ cap ∧ cap ≤ maxLen ∧ b < w.heap.size ∧ ts ≠ [] ∧ RowAt w b off (cellsT ts)
theorem LogV.kept {w w' : World} {B : Nat} {v : Value} {ts : List WTxn} (h : LogV w v ts) (hb : Below B w w') (hB : w.heap.size ≤ B) : LogV w' v ts := by
  rcases h with h | ⟨b, off, cap, rfl, h1, h2, h3, h0, h4⟩
  · exact .inl h
  · exact .inr ⟨b, off, cap, rfl, h1, h2, Nat.lt_of_lt_of_le h3 hb.size, h0, h4.kept hb (Nat.lt_of_lt_of_le h3 hB)⟩
theorem LogV.next {w w' : World} {v : Value} {ts : List WTxn} (h : LogV w v ts) (hb : Below w.heap.size w w') : LogV w' v ts := h.kept hb (Nat.le_refl _)
theorem LogV.alloc {w : World} {v : Value} {ts : List WTxn} (h : LogV w v ts) (o : Obj) : LogV (w.alloc o) v ts := h.next ((Below.refl _ _).alloc (Nat.le_refl _) o)
theorem LogV.drew {w : World} {v : Value} {ts : List WTxn} (h : LogV w v ts) : LogV w.drew v ts := h.next (Below.refl _ _).drew
theorem LogV.nil (w : World) : LogV w (.slice none 0 0) [] := .inl ⟨none, 0, rfl, rfl, by decide⟩
theorem log_slice {w : World} {v : Value} {ts : List WTxn} (hv : LogV w v ts) : ∃ a c, v = .slice a ts.length c := by
  rcases hv with ⟨a, cap, rfl, rfl, _⟩ | ⟨b, off, cap, rfl, _⟩
  · exact ⟨_, _, rfl⟩
  · exact ⟨_, _, rfl⟩
theorem log_row {w : World} {v : Value} {ts : List WTxn} (hv : LogV w v ts) {i : Nat} {t : WTxn} (hi : ts[i]? = some t) :
    ∃ b off cap, v = .slice (some ⟨b, off, none⟩) ts.length cap ∧ b < w.heap.size ∧ RowAt w b off (cellsT ts) ∧ i < ts.length ∧ ts.length ≤ cap ∧ cap ≤ maxLen := by
  have hlt := (List.getElem?_eq_some_iff.1 hi).1
  rcases hv with ⟨a, cap, rfl, rfl, _⟩ | ⟨b, off, cap, rfl, h1, h2, hb, _, hr⟩
  · simp at hi
  · exact ⟨b, off, cap, rfl, hb, hr, hlt, h1, h2⟩
/-- without its last -/
theorem LogV.front {w : World} {m : List WTxn} {t : WTxn} {b off cap : Nat} (h : LogV w (.slice (some ⟨b, off, none⟩) (m.length + 1) cap) (m ++ [t])) : LogV w (.slice (some ⟨b, off, none⟩) m.length cap) m := by
  rcases h with ⟨a, c, _, h, _⟩ | ⟨b', off', cap', he, h1, h2, hb, _, hr⟩
  · simp at h
  · simp only [Value.slice.injEq, Option.some.injEq, Addr.mk.injEq, and_true] at he
    obtain ⟨⟨rfl, rfl⟩, _, rfl⟩ := he
    by_cases h0 : m = []
    · subst h0; exact .inl ⟨_, _, rfl, rfl, h2⟩
    · refine .inr ⟨b, off, cap, rfl, by simp at h1; omega, h2, hb, h0, fun j v hj => hr j v ?_⟩
      rw [cellsT_append, List.getElem?_append_left (List.getElem?_eq_some_iff.1 hj).1]
      exact hj

/-- a value that holds these in a row of the call's own, at or behind block B -/
def OwnL (W : World) (B : Nat) (v : Value) (ts : List WTxn) : Prop := W.ownsRow B 29 7 v ts.length (cellsT ts)
theorem OwnL.nil (W : World) (B : Nat) : OwnL W B (.slice none 0 0) [] := ⟨rfl, .inl ⟨rfl, rfl⟩⟩
theorem OwnL.log {W : World} {B : Nat} {v : Value} {ts : List WTxn} (h : OwnL W B v ts) : LogV W v ts := by
  obtain ⟨hl, ⟨rfl, h0⟩ | ⟨g, cap, cur, rfl, hB, hg, hn, hm, hs, ht⟩⟩ := h
  · rw [List.eq_nil_of_length_eq_zero h0]; exact LogV.nil W
  · by_cases h0 : ts = []
    · subst h0; exact .inl ⟨_, cap, rfl, rfl, hm⟩
    · refine .inr ⟨g, 0, cap, rfl, hn, hm, (Array.getElem?_eq_some_iff.1 hg).1, h0, fun j v hj => ?_⟩
      have hlt : j < (cellsT ts).length := (List.getElem?_eq_some_iff.1 hj).1
      have : cur[j]? = some v := by
        rw [← ht, List.getElem?_take_of_lt (by rw [hl] at hlt; exact hlt)] at hj
        simpa using hj
      simp [World.cell?, hg, this]
theorem OwnL.next {W V : World} {B : Nat} {v : Value} {ts : List WTxn} (h : OwnL W B v ts) (hb : Below W.heap.size W V) : OwnL V B v ts := by
  obtain ⟨hl, h | ⟨g, cap, cur, e, hB, hg, hr⟩⟩ := h
  · exact ⟨hl, .inl h⟩
  · exact ⟨hl, .inr ⟨g, cap, cur, e, hB, (hb.block _ (Array.getElem?_eq_some_iff.1 hg).1).trans hg, hr⟩⟩
theorem OwnL.mono {W : World} {B C : Nat} {v : Value} {ts : List WTxn} (h : OwnL W B v ts) (hC : C ≤ B) : OwnL W C v ts := by
  obtain ⟨hl, h | ⟨g, cap, cur, e, hB, hr⟩⟩ := h
  · exact ⟨hl, .inl h⟩
  · exact ⟨hl, .inr ⟨g, cap, cur, e, Nat.le_trans hC hB, hr⟩⟩
theorem ownl_slice {W : World} {B : Nat} {v : Value} {ts : List WTxn} (h : OwnL W B v ts) : ∃ a c, v = .slice a ts.length c := log_slice h.log
theorem ownl_block {W : World} {B : Nat} {v : Value} {ts : List WTxn} (h : OwnL W B v ts) : ∀ k, v.ownBlock = some k → B ≤ k ∧ k < W.heap.size := World.ownsRow.lt h
theorem OwnL.more {W : World} {B : Nat} {v : Value} {ts : List WTxn} {t : WTxn} (h : W.ownsRow B 29 7 v (ts.length + 1) (cellsT ts ++ tcells t)) : OwnL W B v (ts ++ [t]) := by
  unfold OwnL
  rw [cellsT_snoc, List.length_append]
  exact h

/-- block g holds one transaction -/
def TAt (W : World) (g : Nat) (t : WTxn) : Prop := W.heap[g]? = some (.cells #[.int .i64 t.z, .int .i64 t.o, .int .i64 t.s, .string ⟨t.p.toArray⟩, .string ⟨t.d.toArray⟩, .int .i64 t.v, .int .i64 t.w] 29 (0, 0))
theorem TAt.new (W : World) (t : WTxn) : TAt (W.alloc (.cells #[.int .i64 t.z, .int .i64 t.o, .int .i64 t.s, .string ⟨t.p.toArray⟩, .string ⟨t.d.toArray⟩, .int .i64 t.v, .int .i64 t.w] 29)) W.heap.size t := heap_alloc_new W _
theorem TAt.next {W V : World} {g : Nat} {t : WTxn} (h : TAt W g t) (hb : Below W.heap.size W V) : TAt V g t := (hb.block g (by unfold TAt at h; exact (Array.getElem?_eq_some_iff.1 h).1)).trans h
theorem TAt.lt {W : World} {g : Nat} {t : WTxn} (h : TAt W g t) : g < W.heap.size := by unfold TAt at h; exact (Array.getElem?_eq_some_iff.1 h).1
theorem TAt.c0 {W : World} {g : Nat} {t : WTxn} (h : TAt W g t) : W.cell? ⟨g, 0, none⟩ = some (.int .i64 t.z) := by unfold TAt at h; simp [World.cell?, h]
theorem TAt.c1 {W : World} {g : Nat} {t : WTxn} (h : TAt W g t) : W.cell? ⟨g, 1, none⟩ = some (.int .i64 t.o) := by unfold TAt at h; simp [World.cell?, h]
theorem TAt.c2 {W : World} {g : Nat} {t : WTxn} (h : TAt W g t) : W.cell? ⟨g, 2, none⟩ = some (.int .i64 t.s) := by unfold TAt at h; simp [World.cell?, h]
theorem TAt.c3 {W : World} {g : Nat} {t : WTxn} (h : TAt W g t) : W.cell? ⟨g, 3, none⟩ = some (.string ⟨t.p.toArray⟩) := by unfold TAt at h; simp [World.cell?, h]
theorem TAt.c4 {W : World} {g : Nat} {t : WTxn} (h : TAt W g t) : W.cell? ⟨g, 4, none⟩ = some (.string ⟨t.d.toArray⟩) := by unfold TAt at h; simp [World.cell?, h]
theorem TAt.c5 {W : World} {g : Nat} {t : WTxn} (h : TAt W g t) : W.cell? ⟨g, 5, none⟩ = some (.int .i64 t.v) := by unfold TAt at h; simp [World.cell?, h]
theorem TAt.c6 {W : World} {g : Nat} {t : WTxn} (h : TAt W g t) : W.cell? ⟨g, 6, none⟩ = some (.int .i64 t.w) := by unfold TAt at h; simp [World.cell?, h]
theorem TAt.f {W : World} {g : Nat} {t : WTxn} (h : TAt W g t) (j : Nat) : W.frozen? ⟨g, j, none⟩ = false := by unfold TAt at h; simp [World.frozen?, h]
theorem info_txn0 : (Tryd.prog.info? 29).map (fun i => (i.zero, i.size, i.bytes)) = some (some (txnV t0), 7, 72) := by kernel_rfl
theorem info_txn : ∃ i0, Tryd.prog.info? 29 = some i0 ∧ i0.zero = some (txnV t0) ∧ i0.size = 7 ∧ i0.bytes = 72 := by
  obtain ⟨i0, h, e⟩ := Option.map_eq_some_iff.1 info_txn0
  simp only [Prod.mk.injEq] at e
  exact ⟨i0, h, e.1, e.2.1, e.2.2⟩
end Go.Proofs.YtpoblkionpgljaaDoor

namespace Go.Proofs.YtpoblkionpgljaaDoor
open Go.RowKit

def logN : List UInt8 := [108, 111, 103]
theorem named_log : namedB logN = true := by decide
def logF (ts : List WTxn) : DF := ⟨logN, recsL ts, []⟩
def RecNo (fs : List DF) (E : Int) : Prop := (goodD fs = false ∧ E = 3) ∨ (GoodD fs ∧ fs.length = 16 ∧ (∃ A B, Gap fs A B logN) ∧ E = 6)
structure RecYes (fs : List DF) (ts : List WTxn) (A B : List DF) : Prop where
  good : GoodD fs
  log : Logs ts
  old : (fs.length < 16 ∧ Gap fs A B logN ∧ ts = []) ∨ ∃ f r, There fs A f B logN ∧ Scan (f.s ++ f.t) ts r
theorem rec_cases (fs : List DF) : (∃ E, RecNo fs E) ∨ ∃ ts A B, RecYes fs ts A B := by
  cases hg : goodD fs with
  | false => exact .inl ⟨3, .inl ⟨hg, rfl⟩⟩
  | true =>
    have g := goodD_true.1 hg
    rcases where_is logN fs g.asc with ⟨A, f, B, T⟩ | ⟨A, B, G⟩
    · obtain ⟨ts, r, h⟩ := scan_ex (f.s ++ f.t)
      exact .inr ⟨ts, A, B, g, h.log, .inr ⟨f, r, T, h⟩⟩
    · have := g.few
      by_cases h16 : fs.length = 16
      · exact .inl ⟨6, .inr ⟨g, h16, ⟨A, B, G⟩, rfl⟩⟩
      · exact .inr ⟨[], A, B, g, Logs.nil, .inl ⟨by omega, G, rfl⟩⟩
theorem recNo_ne {fs : List DF} {E : Int} (h : RecNo fs E) : (E != 0) = true := by rcases h with ⟨_, rfl⟩ | ⟨_, _, _, rfl⟩ <;> decide
theorem RecYes.short {fs A B : List DF} {ts : List WTxn} (h : RecYes fs ts A B) : (recsL ts).length ≤ 1048576 := by
  rcases h.old with ⟨_, _, rfl⟩ | ⟨f, r, T, S⟩
  · simp [recsL]
  · have h1 := S.len
    have h2 := fileOk_len (T.ok h.good)
    rw [List.length_append] at h1
    omega
theorem RecYes.few {fs A B : List DF} {ts : List WTxn} (h : RecYes fs ts A B) : ts.length ≤ 40000 := by
  have h1 := h.short
  have h2 := recsL_ge ts
  omega
theorem RecYes.there {fs A B : List DF} {ts : List WTxn} (h : RecYes fs ts A B) (us : List WTxn) : There (A ++ logF us :: B) A (logF us) B logN := by
  rcases h.old with ⟨_, G, _⟩ | ⟨f, r, T, _⟩
  · exact G.ins rfl
  · exact T.set rfl
theorem RecYes.after {fs A B : List DF} {ts : List WTxn} (h : RecYes fs ts A B) {us : List WTxn} (hu : (recsL us).length ≤ 1048576) : GoodD (A ++ logF us :: B) := by
  have hl : (logF us).s.length + (logF us).t.length ≤ 1048576 := by simp [logF]; exact hu
  rcases h.old with ⟨h16, G, _⟩ | ⟨f, r, T, _⟩
  · exact good_ins h.good G named_log h16 rfl hl
  · have g := h.good
    rw [T.eq] at g
    exact good_set g T.nm.symm hl
theorem RecYes.again {fs A B : List DF} {ts : List WTxn} (h : RecYes fs ts A B) {us : List WTxn} (hu : Logs us) (hl : (recsL us).length ≤ 1048576) : RecYes (A ++ logF us :: B) us A B :=
  ⟨h.after hl, hu, .inr ⟨logF us, [], h.there us, by have := scan_recs hu; simpa [logF] using this⟩⟩

/- a disk with the log alone -/
theorem gap_none (name : List UInt8) : Gap [] [] [] name := ⟨rfl, by simp, by simp⟩
theorem good_none : GoodD [] := ⟨by simp, by simp, List.Pairwise.nil⟩
theorem good_one {s t : List UInt8} (h : s.length + t.length ≤ 1048576) : GoodD [⟨logN, s, t⟩] :=
  good_ins good_none (gap_none logN) named_log (by simp) (f' := ⟨logN, s, t⟩) rfl h
theorem there_one (s t : List UInt8) : There [⟨logN, s, t⟩] [] ⟨logN, s, t⟩ [] logN := (gap_none logN).ins (f' := ⟨logN, s, t⟩) rfl
theorem rec_one {s t r : List UInt8} {ts : List WTxn} (h : s.length + t.length ≤ 1048576) (S : Scan (s ++ t) ts r) : RecYes [⟨logN, s, t⟩] ts [] [] :=
  ⟨good_one h, S.log, .inr ⟨_, r, there_one s t, S⟩⟩
theorem rec_none : RecYes [] [] [] [] := ⟨good_none, Logs.nil, .inl ⟨by simp, gap_none _, rfl⟩⟩
/-- the disk on which a log was laid, safe -/
def logD (ts : List WTxn) : List DF := if ts.length = 0 then [] else [logF ts]
theorem logD_nil : logD [] = [] := rfl
theorem logD_some {ts : List WTxn} (h : ts.length ≠ 0) : logD ts = [logF ts] := by simp [logD, h]
theorem logD_good {ts : List WTxn} (h : (recsL ts).length ≤ 1048576) : GoodD (logD ts) := by
  unfold logD
  split
  · exact good_none
  · exact good_one (by simpa using h)
theorem logD_rec {ts : List WTxn} (h : Logs ts) (hl : (recsL ts).length ≤ 1048576) : RecYes (logD ts) ts [] [] := by
  by_cases h0 : ts.length = 0
  · have := List.length_eq_zero_iff.1 h0
    subst this
    exact rec_none
  · rw [logD_some h0]
    exact rec_one (by simpa using hl) (by have := scan_recs h; simpa using this)
theorem logD_crash (ts : List WTxn) (k : Nat) : (logD ts).map (crashF k) = logD ts := by
  unfold logD
  split
  · rfl
  · simp [crashF, logF]

/- what is kept -/
def keepL (z : Int) (ts : List WTxn) : List WTxn := ts.takeWhile fun t => decide (t.z ≤ z)
theorem keepL_split (z : Int) (ts : List WTxn) : ∃ b, ts = keepL z ts ++ b := ⟨ts.dropWhile fun t => decide (t.z ≤ z), (List.takeWhile_append_dropWhile ..).symm⟩
theorem keepL_logs {z : Int} {ts : List WTxn} (h : Logs ts) : Logs (keepL z ts) := by
  obtain ⟨b, e⟩ := keepL_split z ts
  rw [e] at h
  exact h.left
theorem keepL_take (z : Int) (ts : List WTxn) : (recsL ts).take (recsL (keepL z ts)).length = recsL (keepL z ts) ∧ (recsL (keepL z ts)).length ≤ (recsL ts).length := by
  obtain ⟨b, e⟩ := keepL_split z ts
  generalize keepL z ts = a at *
  subst e
  rw [recsL_append]
  simp
theorem keepL_filter {z : Int} : ∀ {ts : List WTxn}, Logs ts → ts.filter (fun t => decide (t.z ≤ z)) = keepL z ts
  | [], _ => rfl
  | t :: l, h => by
    have hl : Logs l := ⟨fun x hx => h.good x (by simp [hx]), (List.pairwise_cons.1 h.rise).2⟩
    unfold keepL
    by_cases ht : t.z ≤ z
    · rw [List.filter_cons_of_pos (by simpa using ht), List.takeWhile_cons_of_pos (by simpa using ht), keepL_filter hl]; rfl
    · rw [List.filter_cons_of_neg (by simpa using ht), List.takeWhile_cons_of_neg (by simpa using ht)]
      refine List.filter_eq_nil_iff.2 fun x hx => ?_
      have := (List.pairwise_cons.1 h.rise).1 x hx
      simp; omega
end Go.Proofs.YtpoblkionpgljaaDoor

namespace Go.Proofs.YtpoblkionpgljaaDoor
open Go.RowKit

theorem below_next2 {a b c : World} (h : Below a.heap.size a b) (k : Below b.heap.size b c) : Below a.heap.size a c := h.trans (k.mono h.size)

set_option maxRecDepth 10000 in
set_option maxHeartbeats 400000 in
theorem last_any (v : Value) (ts : List WTxn) (w : World) (hv : LogV w v ts) :
    Calls Tryd.prog 18 #[v] w fun e w' => e = .returned (.int .i64 (lastZ ts)) ∧ w' = w := by
  by_cases h0 : ts.length = 0
  · obtain ⟨a, c, rfl⟩ := log_slice hv
    obtain rfl := List.length_eq_zero_iff.1 h0
    clear hv h0
    rw [lastZ_nil]
    go_enter Tryd.func18, Tryd.ntmps18
    go_wp2_with fail
    go_ret
    exact ⟨rfl, rfl⟩
  · obtain ⟨m, x, rfl⟩ := snoc_of h0
    have hi : (m ++ [x])[m.length]? = some x := by simp
    obtain ⟨b, off, cap, rfl, hb, hr, hlt, hc, hm⟩ := log_row hv hi
    have e := hr.z hi
    have hl : (m ++ [x]).length = m.length + 1 := by simp
    rw [lastZ_snoc, hl]
    simp only [maxLen] at hm
    rw [hl] at hc
    have hM : m.length < 9223372036854775807 := by omega
    clear hv h0 hr hi hl hlt hc hm
    generalize m.length = k at *
    go_enter Tryd.func18, Tryd.ntmps18
    go_wp2_with fail
    go_ret
    exact ⟨rfl, rfl⟩

set_option maxHeartbeats 400000 in
theorem follows_any (t : WTxn) (v : Value) (ts : List WTxn) (w : World) (hv : LogV w v ts) :
    Calls Tryd.prog 34 #[txnV t, v] w fun e w' => e = .returned (.bool (follB ts t)) ∧ Below w.heap.size w w' := by
  have C := fun W (h : Below w.heap.size w W) => last_any v ts W (hv.next h)
  obtain ⟨a, c, rfl⟩ := log_slice hv
  obtain ⟨z, o, s, p, d, y, u⟩ := t
  unfold txnV
  by_cases h0 : ts.length = 0
  · have hf : follB ts ⟨z, o, s, p, d, y, u⟩ = true := by simp [follB, h0]
    rw [hf, h0]
    clear C hv hf
    go_enter Tryd.func34, Tryd.ntmps34
    go_wp2_with fail
    go_region
    go_wp2_with fail
    go_ret
    exact ⟨rfl, ((Below.refl _ _).alloc (Nat.le_refl _) _).drew⟩
  · have hf : follB ts ⟨z, o, s, p, d, y, u⟩ = decide (lastZ ts < z) := by rw [follB_some h0]
    rw [hf]
    generalize lastZ ts = L at *
    have h0i : ((ts.length : Int) == 0) = false := by simpa using h0
    clear hv hf
    go_enter Tryd.func34, Tryd.ntmps34
    go_wp2_with fail
    go_region_with (first | (go_at_call 18; refine (C _ ?_).mono ?_; exact (((Below.refl _ _).alloc (Nat.le_refl _) _).drew); rintro e w1 ⟨rfl, rfl⟩))
    all_goals go_wp2_with fail
    all_goals go_ret
    all_goals exact ⟨rfl, ((Below.refl _ _).alloc (Nat.le_refl _) _).drew⟩
end Go.Proofs.YtpoblkionpgljaaDoor

namespace Go.Proofs.YtpoblkionpgljaaDoor
open Go.RowKit

/- a transaction more at the end of a row of the call's own -/
theorem app_row {W : World} {B k c : Nat} {a : Option Addr} {ts : List WTxn} (h : OwnL W B (.slice a k c) ts) (hk : ts.length = k) (O : Obj) (V : World) (e : V = W.alloc O) : V.ownsRow B 29 7 (.slice a k c) k (cellsT ts) := by
  subst e
  have := h.next ((Below.refl _ _).alloc (Nat.le_refl _) O)
  unfold OwnL at this
  rwa [hk] at this
theorem app_new (W : World) (t : WTxn) (j : Nat) (u : Value) (h : (tcells t)[j]? = some u) : (W.alloc (.cells #[.int .i64 t.z, .int .i64 t.o, .int .i64 t.s, .string ⟨t.p.toArray⟩, .string ⟨t.d.toArray⟩, .int .i64 t.v, .int .i64 t.w] 29)).cell? ((⟨W.heap.size, 0, none⟩ : Addr).add j) = some u := by
  rw [Addr.add_lit]
  show World.cell? _ ⟨W.heap.size, 0 + j, none⟩ = _
  rw [Nat.zero_add]
  have e := heap_alloc_new W (.cells #[.int .i64 t.z, .int .i64 t.o, .int .i64 t.s, .string ⟨t.p.toArray⟩, .string ⟨t.d.toArray⟩, .int .i64 t.v, .int .i64 t.w] 29)
  simp only [World.cell?, e]
  have : (#[.int .i64 t.z, .int .i64 t.o, .int .i64 t.s, .string ⟨t.p.toArray⟩, .string ⟨t.d.toArray⟩, .int .i64 t.v, .int .i64 t.w] : Array Value)[j]? = (tcells t)[j]? := by simp [tcells]
  rw [this, h]
  rfl
theorem app_done {w W V : World} {B k c : Nat} {a : Option Addr} {ts : List WTxn} {t : WTxn} {O : Obj} {v' : Value} (hb : Below w.heap.size w W) (h : OwnL W B (.slice a k c) ts) (hB : w.heap.size ≤ B) (hk : ts.length = k)
    (hown : V.ownsRow B 29 7 v' (k + 1) (cellsT ts ++ tcells t)) (hg : (W.alloc O).grownBy V (Value.slice a k c).ownBlock) :
    ∃ a' c', v' = .slice a' (k + 1) c' ∧ OwnL V B (.slice a' (k + 1) c') (ts ++ [t]) ∧ Below w.heap.size w V := by
  subst hk
  have ho := OwnL.more hown
  obtain ⟨a', c', rfl⟩ := ownl_slice ho
  rw [List.length_append] at ho
  refine ⟨a', c', by rw [List.length_append]; rfl, ho, ?_⟩
  have h1 : Below w.heap.size w (W.alloc O) := hb.alloc hb.size O
  exact h1.grown hg h1.size fun q e => Nat.le_trans hB (ownl_block h q e).1

/-- what wire.Decode does -/
def DecOk : Prop := ∀ (s : List UInt8) (w : World), s.length ≤ 140737488355328 →
    Calls Tryd.prog 33 #[.string ⟨s.toArray⟩] w fun e w' => e = .returned (.tuple #[txnV (decT s), .int .i64 (decN s), .int .i64 (decE s)]) ∧ Below w.heap.size w w'

theorem scan_at {s r : List UInt8} {ts : List WTxn} (S : Scan s ts r) (k : Nat) : s.drop (recsL (ts.take k)).length = recsL (ts.drop k) ++ r ∧ (recsL (ts.take k)).length ≤ s.length := by
  have e : s = recsL (ts.take k) ++ (recsL (ts.drop k) ++ r) := by rw [← List.append_assoc, ← recsL_append, List.take_append_drop]; exact S.eq
  generalize recsL (ts.take k) = X at *
  subst e
  simp
theorem take_more1 {ts : List WTxn} {k : Nat} {t : WTxn} (h : ts[k]? = some t) : ts.take (k + 1) = ts.take k ++ [t] := by
  obtain ⟨hk, rfl⟩ := List.getElem?_eq_some_iff.1 h
  exact List.take_succ_eq_append_getElem hk
theorem drop_more1 {ts : List WTxn} {k : Nat} {t : WTxn} (h : ts[k]? = some t) : ts.drop k = t :: ts.drop (k + 1) := by
  obtain ⟨hk, rfl⟩ := List.getElem?_eq_some_iff.1 h
  exact List.drop_eq_getElem_cons hk
theorem logs_at {ts : List WTxn} (L : Logs ts) {k : Nat} {t : WTxn} (h : ts[k]? = some t) : gdE t = 0 ∧ follB (ts.take k) t = true := by
  have e : ts = ts.take k ++ t :: ts.drop (k + 1) := by rw [← drop_more1 h, List.take_append_drop]
  rw [e] at L
  exact L.at

theorem ret_vn {v : Value} {i j : Nat} (h : i = j) : Ending.returned (.tuple #[v, .int .i64 i]) = .returned (.tuple #[v, .int .i64 j]) := by rw [h]

set_option maxRecDepth 10000 in
set_option maxHeartbeats 2000000 in
theorem scan_of (CD : DecOk) (s r : List UInt8) (ts : List WTxn) (w : World) (S : Scan s ts r) (hs : s.length ≤ 1048576) :
    Calls Tryd.prog 9 #[.string ⟨s.toArray⟩] w fun e w' => ∃ v, e = .returned (.tuple #[v, .int .i64 ((recsL ts).length : Nat)]) ∧ OwnL w' w.heap.size v ts ∧ Below w.heap.size w w' := by
  obtain ⟨i0, hi0, hz0, hz1, hz2⟩ := info_txn
  have hzs : (ByteArray.mk s.toArray).size = s.length := Lib.size_eq ⟨s.toArray⟩
  have hts : ts.length * 31 ≤ 1048576 := by have := recsL_ge ts; have := S.len; omega
  have HS := hide S
  have HCD := hide CD
  clear S CD
  go_enter Tryd.func9, Tryd.ntmps9
  go_wp2_with fail
  go_loopg [4, 5] ts.length (fun kx s4 s5 wr => ∃ (k N : Nat) (a : Option Addr) (c : Nat), s4 = .slice a k c ∧ s5 = .int .i64 N ∧ k ≤ ts.length ∧ ts.length - k ≤ kx ∧ Hid ((recsL (ts.take k)).length = N) ∧ Hid (OwnL wr w.heap.size (.slice a k c) (ts.take k) ∧ Below w.heap.size w wr))
  case atStart => exact ⟨0, 0, none, 0, rfl, rfl, Nat.zero_le _, by omega, hide rfl, hide ⟨OwnL.nil _ _, Below.refl _ _⟩⟩
  case round =>
    obtain ⟨k, N, a, c, rfl, rfl, hk, hkx, HN, hI⟩ := hrel
    have h1 := scan_at (unhide HS) k
    rw [unhide HN] at h1
    obtain ⟨hd, hNs⟩ := h1
    have hx : (ByteArray.mk s.toArray).extract N s.length = ⟨(s.drop N).toArray⟩ := ex_back s N
    have hMl : (ts.take k).length = k := by simp; omega
    by_cases hlt : k < ts.length
    · obtain ⟨t, ht⟩ : ∃ t, ts[k]? = some t := ⟨_, List.getElem?_eq_getElem hlt⟩
      have hgf := logs_at (unhide HS).log ht
      rw [drop_more1 ht, recsL, List.append_assoc] at hd
      have C := fun W => unhide HCD (s.drop N) W (by rw [List.length_drop]; omega)
      have hdr := dec_rec hgf.1 (recsL (ts.drop (k + 1)) ++ r)
      rw [← hd] at hdr
      rw [hdr.1, hdr.2.1, hdr.2.2] at C
      have hrl := recL_le hgf.1
      have hNN := scan_at (unhide HS) (k + 1)
      rw [take_more1 ht, recsL_snoc, List.length_append, unhide HN] at hNN
      have hNL := hNN.2
      have CF := fun v W (h : LogV W v (ts.take k)) => follows_any t v (ts.take k) W h
      rw [hgf.2] at CF
      have HT := hide (take_more1 ht)
      have HM := hide hMl
      clear hd hdr hgf hNN hMl ht
      obtain ⟨Y, hY⟩ : ∃ Y, s.drop N = Y := ⟨_, rfl⟩
      rw [hY] at hx C
      obtain ⟨L, hL⟩ : ∃ L, (recL t).length = L := ⟨_, rfl⟩
      rw [hL] at C hNL hrl
      have HL := hide hL
      obtain ⟨M, hM⟩ : ∃ M, ts.take k = M := ⟨_, rfl⟩
      rw [hM] at hI HT HM CF HN
      have HCF := hide CF
      clear hY hL hM CF
      obtain ⟨z, o, s1, p, d, y, u⟩ := t
      unfold txnV at C HCF
      go_wp2_with fail
      refine (C _).mono ?_
      rintro e w1 ⟨rfl, hb1⟩
      have hal := (Below.refl w1.heap.size w1).alloc (Nat.le_refl _) (.cells #[.int .i64 z, .int .i64 o, .int .i64 s1, .string ⟨p.toArray⟩, .string ⟨d.toArray⟩, .int .i64 y, .int .i64 u] 29)
      have HB1 := hide (below_next2 (below_next2 (unhide hI).2 hb1) hal)
      have HO1 := hide (((unhide hI).1.next hb1).next hal)
      have T1 := hide (TAt.new w1 ⟨z, o, s1, p, d, y, u⟩)
      clear C hb1 hal hI
      go_wp2_with fail
      generalize w1.alloc (.cells #[.int .i64 z, .int .i64 o, .int .i64 s1, .string ⟨p.toArray⟩, .string ⟨d.toArray⟩, .int .i64 y, .int .i64 u] 29) = W1 at *
      refine (unhide HCF _ _ (unhide HO1).log).mono ?_
      rintro e w3 ⟨rfl, hb3⟩
      have HB3 := hide (below_next2 (unhide HB1) hb3)
      have HO3 := hide ((unhide HO1).next hb3)
      have T3 := (unhide T1).next hb3
      have c0 := T3.c0
      have c1 := T3.c1
      have c2 := T3.c2
      have c3 := T3.c3
      have c4 := T3.c4
      have c5 := T3.c5
      have c6 := T3.c6
      clear hb3 HB1 HO1 T1 T3 HCF
      have HRW := hide (app_row (unhide HO3) (unhide HM))
      have HC2 := hide (app_new w3 ⟨z, o, s1, p, d, y, u⟩)
      have h4 : Hid (k + 1 ≤ maxLen) := by unfold Hid; simp only [maxLen]; omega
      have h5 : Hid ((k + 1) * 72 ≤ 140737488355328) := by unfold Hid; omega
      have h6 : Hid (∀ O1, w.heap.size ≤ (w3.alloc O1).heap.size) := fun O1 => by have := (unhide HB3).size; simp; omega
      go_wp2_with (at_builtin; refine wpList_append_own _ rfl _ _ 22 rfl w.heap.size 29 i0 _ 7 72 Tryd.underlying22 hi0 hz0 hz1 hz2 rfl (by decide) _ k (cellsT M) rfl (unhide HRW _ _ rfl) ⟨w3.heap.size, 0, none⟩ 1 1 (tcells ⟨z, o, s1, p, d, y, u⟩) rfl rfl (unhide HC2) (tcells_one _) (unhide h4) (unhide h5) (unhide h6 _) ?_)
      intro v' w5 hown hgrow _
      obtain ⟨a5, cc5, rfl, ho5, hb5⟩ := app_done (unhide HB3) (unhide HO3) (Nat.le_refl _) (unhide HM) hown hgrow
      have HZ := hide (And.intro ho5 hb5)
      clear hown hgrow ho5 hb5 HRW HC2 h4 h5 h6 HB3 HO3 c0 c1 c2 c3 c4 c5 c6
      go_wp2_with fail
      go_roundg (ts.length - (k + 1))
      case measure => omega
      case rel => exact ⟨k + 1, N + L, a5, cc5, rfl, by simp, by omega, Nat.le_refl _, hide (by rw [unhide HT, recsL_snoc, List.length_append, unhide HN, unhide HL]), hide (by rw [unhide HT]; exact unhide HZ)⟩
    · obtain rfl : k = ts.length := by omega
      rw [List.drop_length, recsL, List.nil_append] at hd
      have C := fun W => unhide HCD (s.drop N) W (by rw [List.length_drop]; omega)
      rw [hd] at C hx
      have hst := (unhide HS).stop
      have HI := hide (by have := unhide hI; rw [List.take_length] at this; exact this : OwnL wr w.heap.size (.slice a ts.length c) ts ∧ Below w.heap.size w wr)
      have HN2 := hide (by have := unhide HN; rw [List.take_length] at this; exact this : (recsL ts).length = N)
      clear hd hMl hlt hI
      by_cases he : decE r = 0
      · have hf : follB ts (decT r) = false := by
          rcases hst with h | h
          · exact absurd he h
          · exact h
        have CF := fun v W (h : LogV W v ts) => follows_any (decT r) v ts W h
        rw [hf] at CF
        rw [he] at C
        have HCF := hide CF
        clear hst hf CF
        obtain ⟨D, hD⟩ : ∃ D, decN r = D := ⟨_, rfl⟩
        rw [hD] at C
        clear hD he
        obtain ⟨t, ht⟩ : ∃ t, decT r = t := ⟨_, rfl⟩
        rw [ht] at C HCF
        clear ht
        obtain ⟨z, o, s1, p, d, y, u⟩ := t
        unfold txnV at C HCF
        go_wp2_with fail
        refine (C _).mono ?_
        rintro e w1 ⟨rfl, hb1⟩
        have hal := (Below.refl w1.heap.size w1).alloc (Nat.le_refl _) (.cells #[.int .i64 z, .int .i64 o, .int .i64 s1, .string ⟨p.toArray⟩, .string ⟨d.toArray⟩, .int .i64 y, .int .i64 u] 29)
        have HB1 := hide (below_next2 (below_next2 (unhide HI).2 hb1) hal)
        have HO1 := hide (((unhide HI).1.next hb1).next hal)
        clear C hb1 hal HI
        go_wp2_with fail
        generalize w1.alloc (.cells #[.int .i64 z, .int .i64 o, .int .i64 s1, .string ⟨p.toArray⟩, .string ⟨d.toArray⟩, .int .i64 y, .int .i64 u] 29) = W1 at *
        refine (unhide HCF _ _ (unhide HO1).log).mono ?_
        rintro e w3 ⟨rfl, hb3⟩
        have HB3 := hide (below_next2 (unhide HB1) hb3)
        have HO3 := hide ((unhide HO1).next hb3)
        clear hb3 HB1 HO1 HCF
        go_wp2_with fail
        go_ret2
        exact ⟨.slice a ts.length c, ret_vn (unhide HN2).symm, unhide HO3, unhide HB3⟩
      · have hne : (decE r != 0) = true := by simpa using he
        clear hst he
        obtain ⟨D, hD⟩ : ∃ D, decN r = D := ⟨_, rfl⟩
        rw [hD] at C
        clear hD
        obtain ⟨E, hE⟩ : ∃ E, decE r = E := ⟨_, rfl⟩
        rw [hE] at C hne
        clear hE
        obtain ⟨t, ht⟩ : ∃ t, decT r = t := ⟨_, rfl⟩
        rw [ht] at C
        clear ht
        obtain ⟨z, o, s1, p, d, y, u⟩ := t
        unfold txnV at C
        go_wp2_with fail
        refine (C _).mono ?_
        rintro e w1 ⟨rfl, hb1⟩
        have hal := (Below.refl w1.heap.size w1).alloc (Nat.le_refl _) (.cells #[.int .i64 z, .int .i64 o, .int .i64 s1, .string ⟨p.toArray⟩, .string ⟨d.toArray⟩, .int .i64 y, .int .i64 u] 29)
        have HB1 := hide (below_next2 (below_next2 (unhide HI).2 hb1) hal)
        have HO1 := hide (((unhide HI).1.next hb1).next hal)
        clear C hb1 hal HI
        go_wp2_with fail
        go_ret2
        exact ⟨.slice a ts.length c, ret_vn (unhide HN2).symm, unhide HO1, unhide HB1⟩
end Go.Proofs.YtpoblkionpgljaaDoor

namespace Go.Proofs.YtpoblkionpgljaaDoor
open Go.RowKit

theorem log_len {w : World} {v : Value} {ts : List WTxn} (hv : LogV w v ts) : (∃ a c, v = .slice a 0 c ∧ ts = []) ∨ ∃ b off c, v = .slice (some ⟨b, off, none⟩) ts.length c ∧ b < w.heap.size ∧ RowAt w b off (cellsT ts) ∧ ts ≠ [] := by
  rcases hv with ⟨a, cap, rfl, rfl, _⟩ | ⟨b, off, cap, rfl, _, _, hb, h0, hr⟩
  · exact .inl ⟨a, cap, rfl, rfl⟩
  · exact .inr ⟨b, off, cap, rfl, hb, hr, h0⟩

set_option maxHeartbeats 400000 in
theorem ksl_none (a a' : Option Addr) (c c' : Nat) (w : World) :
    Calls Tryd.prog 30 #[.slice a 0 c, .slice a' 0 c'] w fun e w' => e = .returned (.bool true) ∧ Below w.heap.size w w' := by
  go_enter Tryd.func30, Tryd.ntmps30
  go_wp2_with fail
  go_loopg [5] 1 (fun _ s wr => s = .int .i64 0 ∧ wr = w)
  case atStart => exact ⟨rfl, rfl⟩
  case round =>
    obtain ⟨rfl, rfl⟩ := hrel
    go_wp2_with fail
    go_ret
    exact ⟨rfl, Below.refl _ _⟩

set_option maxRecDepth 10000 in
set_option maxHeartbeats 1000000 in
theorem ksl_some (b off c b' off' c' : Nat) (ts : List WTxn) (w : World) (hl : ts.length ≤ 1000000) (hr : RowAt w b off (cellsT ts)) (hr' : RowAt w b' off' (cellsT ts)) :
    Calls Tryd.prog 30 #[.slice (some ⟨b, off, none⟩) ts.length c, .slice (some ⟨b', off', none⟩) ts.length c'] w fun e w' => e = .returned (.bool true) ∧ Below w.heap.size w w' := by
  have HR := hide hr
  have HR' := hide hr'
  clear hr hr'
  go_enter Tryd.func30, Tryd.ntmps30
  go_wp2_with fail
  go_loopg [5] ts.length (fun kx s wr => ∃ (k : Nat) (q : Nat), s = .int .i64 k ∧ k ≤ ts.length ∧ ts.length - k ≤ kx ∧ wr = w.drewN q)
  case atStart => exact ⟨0, 0, rfl, Nat.zero_le _, by omega, rfl⟩
  case round =>
    obtain ⟨k, q, rfl, hk, hkx, rfl⟩ := hrel
    by_cases hlt : k < ts.length
    · obtain ⟨t, ht⟩ : ∃ t, ts[k]? = some t := ⟨_, List.getElem?_eq_getElem hlt⟩
      have r := unhide HR
      have e0 := r.z ht
      have e1 := r.o ht
      have e2 := r.s ht
      have e3 := r.p ht
      have e4 := r.d ht
      have e5 := r.v ht
      have e6 := r.w ht
      have r' := unhide HR'
      have e0' := r'.z ht
      have e1' := r'.o ht
      have e2' := r'.s ht
      have e3' := r'.p ht
      have e4' := r'.d ht
      have e5' := r'.v ht
      have e6' := r'.w ht
      have hlti : (k : Int) < (ts.length : Int) := by omega
      clear r r' ht
      go_wp2_with fail
      go_region
      go_wp2_with fail
      go_roundg (ts.length - (k + 1))
      case measure => omega
      case rel => exact ⟨k + 1, q + 1, rfl, by omega, Nat.le_refl _, rfl⟩
    · have hki : ¬ ((k : Int) < (ts.length : Int)) := by omega
      go_wp2_with fail
      go_ret
      exact ⟨rfl, ⟨rfl, rfl, rfl, Nat.le_refl _, fun _ _ => rfl⟩⟩

theorem ksl_any (v v' : Value) (ts : List WTxn) (w : World) (hl : ts.length ≤ 1000000) (hv : LogV w v ts) (hv' : LogV w v' ts) :
    Calls Tryd.prog 30 #[v, v'] w fun e w' => e = .returned (.bool true) ∧ Below w.heap.size w w' := by
  rcases log_len hv with ⟨a, c, rfl, h0⟩ | ⟨b, off, c, rfl, hb, hr, h0⟩
  · rcases log_len hv' with ⟨a', c', rfl, _⟩ | ⟨b', off', c', rfl, hb', hr', h0'⟩
    · exact ksl_none a a' c c' w
    · exact absurd h0 h0'
  · rcases log_len hv' with ⟨a', c', rfl, h0'⟩ | ⟨b', off', c', rfl, hb', hr', h0'⟩
    · exact absurd h0' h0
    · exact ksl_some b off c b' off' c' ts w hl hr hr'

set_option maxHeartbeats 400000 in
theorem rsl_none (a a' : Option Addr) (c c' : Nat) (w : World) :
    Calls Tryd.prog 13 #[.slice a 0 c, .slice a' 0 c'] w fun e w' => e = .returned (.bool true) ∧ Below w.heap.size w w' := by
  go_enter Tryd.func13, Tryd.ntmps13
  go_wp2_with fail
  go_loopg [13] 1 (fun _ s wr => s = .int .i64 0 ∧ wr = w)
  case atStart => exact ⟨rfl, rfl⟩
  case round =>
    obtain ⟨rfl, rfl⟩ := hrel
    go_wp2_with fail
    go_ret
    exact ⟨rfl, Below.refl _ _⟩

set_option maxRecDepth 10000 in
set_option maxHeartbeats 1000000 in
theorem rsl_some (b off c b' off' c' : Nat) (ts : List WTxn) (w : World) (hl : ts.length ≤ 1000000) (hr : RowAt w b off (cellsT ts)) (hr' : RowAt w b' off' (cellsT ts)) :
    Calls Tryd.prog 13 #[.slice (some ⟨b, off, none⟩) ts.length c, .slice (some ⟨b', off', none⟩) ts.length c'] w fun e w' => e = .returned (.bool true) ∧ Below w.heap.size w w' := by
  have HR := hide hr
  have HR' := hide hr'
  clear hr hr'
  go_enter Tryd.func13, Tryd.ntmps13
  go_wp2_with fail
  go_loopg [13] ts.length (fun kx s wr => ∃ (k : Nat) (q : Nat), s = .int .i64 k ∧ k ≤ ts.length ∧ ts.length - k ≤ kx ∧ wr = w.drewN q)
  case atStart => exact ⟨0, 0, rfl, Nat.zero_le _, by omega, rfl⟩
  case round =>
    obtain ⟨k, q, rfl, hk, hkx, rfl⟩ := hrel
    by_cases hlt : k < ts.length
    · obtain ⟨t, ht⟩ : ∃ t, ts[k]? = some t := ⟨_, List.getElem?_eq_getElem hlt⟩
      have r := unhide HR
      have e0 := r.z ht
      have e1 := r.o ht
      have e2 := r.s ht
      have e3 := r.p ht
      have e4 := r.d ht
      have e5 := r.v ht
      have e6 := r.w ht
      have r' := unhide HR'
      have e0' := r'.z ht
      have e1' := r'.o ht
      have e2' := r'.s ht
      have e3' := r'.p ht
      have e4' := r'.d ht
      have e5' := r'.v ht
      have e6' := r'.w ht
      have hlti : (k : Int) < (ts.length : Int) := by omega
      clear r r' ht
      go_wp2_with fail
      go_region
      go_wp2_with fail
      go_roundg (ts.length - (k + 1))
      case measure => omega
      case rel => exact ⟨k + 1, q + 1, rfl, by omega, Nat.le_refl _, rfl⟩
    · have hki : ¬ ((k : Int) < (ts.length : Int)) := by omega
      go_wp2_with fail
      go_ret
      exact ⟨rfl, ⟨rfl, rfl, rfl, Nat.le_refl _, fun _ _ => rfl⟩⟩

theorem rsl_any (v v' : Value) (ts : List WTxn) (w : World) (hl : ts.length ≤ 1000000) (hv : LogV w v ts) (hv' : LogV w v' ts) :
    Calls Tryd.prog 13 #[v, v'] w fun e w' => e = .returned (.bool true) ∧ Below w.heap.size w w' := by
  rcases log_len hv with ⟨a, c, rfl, h0⟩ | ⟨b, off, c, rfl, hb, hr, h0⟩
  · rcases log_len hv' with ⟨a', c', rfl, _⟩ | ⟨b', off', c', rfl, hb', hr', h0'⟩
    · exact rsl_none a a' c c' w
    · exact absurd h0 h0'
  · rcases log_len hv' with ⟨a', c', rfl, h0'⟩ | ⟨b', off', c', rfl, hb', hr', h0'⟩
    · exact absurd h0' h0
    · exact rsl_some b off c b' off' c' ts w hl hr hr'
end Go.Proofs.YtpoblkionpgljaaDoor

namespace Go.Proofs.YtpoblkionpgljaaDoor
open Go.ChangeShapes Go.WideShapes Go.ChangeAt Go.RowKit Go.ChangeMaps

def txnD {H : Type} (t : WTxn) : DataW H := .agg [.lit (.int .i64 t.z), .lit (.int .i64 t.o), .lit (.int .i64 t.s), .lit (.string t.p), .lit (.string t.d), .lit (.int .i64 t.v), .lit (.int .i64 t.w)]
structure TxnOk (t : WTxn) : Prop where
  z : (Lit.int .i64 t.z).wf = true
  o : (Lit.int .i64 t.o).wf = true
  s : (Lit.int .i64 t.s).wf = true
  p : (ByteArray.mk t.p.toArray).size ≤ maxLen
  d : (ByteArray.mk t.d.toArray).size ≤ maxLen
  v : (Lit.int .i64 t.v).wf = true
  w : (Lit.int .i64 t.w).wf = true

theorem cellsInt : Tryd.prog.cellsOf 3 = 1 := by kernel_rfl
theorem cellsStr : Tryd.prog.cellsOf 9 = 1 := by kernel_rfl
theorem cellsTxn : Tryd.prog.cellsOf 29 = 7 := by kernel_rfl
theorem ba_of (s : ByteArray) : ∃ l : List UInt8, s = ⟨l.toArray⟩ := ⟨s.data.toList, rfl⟩

set_option maxRecDepth 10000 in
theorem open_txn {H : Type} {enc : TypeId × Value → H} {W : World} {base : Nat} {spare : Nat → Bool} {held : Bool} {r : Reach} {b0 : Nat} {v : Value} {d : DataW H} {p : List MemPlace}
    (hv : Value.okWide Tryd.prog W r b0 29 v) (h : DataW.Trod enc Tryd.prog W base spare held 29 v d p) :
    ∃ t : WTxn, v = txnV t ∧ d = txnD t ∧ p = [] ∧ TxnOk t := by
  obtain ⟨cs, rfl, hsz⟩ := okWide_struct Tryd.underlying29 hv
  have hsz7 : cs.size = 7 := hsz.trans cellsTxn
  obtain ⟨l⟩ := cs
  match l, hsz7 with
  | [c0, c1, c2, c3, c4, c5, c6], _ =>
    obtain ⟨fuel, hf⟩ := h
    obtain ⟨xs, n, _, hx, _, hlen, hfs⟩ := DataW.trod_struct Tryd.underlying29 hf
    match xs, hlen with
    | [y0, y1, y2, y3, y4, y5, y6], _ =>
      obtain ⟨z, e0, rfl, w0⟩ := DataW.trod_int Tryd.underlying3 (show DataW.trod enc Tryd.prog W base spare held n 3 [c0] = some y0 by simpa [Value.cells, cellsInt] using hfs 0 _ rfl)
      obtain ⟨o, e1, rfl, w1⟩ := DataW.trod_int Tryd.underlying3 (show DataW.trod enc Tryd.prog W base spare held n 3 [c1] = some y1 by simpa [Value.cells, cellsInt] using hfs 1 _ rfl)
      obtain ⟨s, e2, rfl, w2⟩ := DataW.trod_int Tryd.underlying3 (show DataW.trod enc Tryd.prog W base spare held n 3 [c2] = some y2 by simpa [Value.cells, cellsInt] using hfs 2 _ rfl)
      obtain ⟨p', e3, rfl, w3⟩ := DataW.trod_string Tryd.underlying9 (show DataW.trod enc Tryd.prog W base spare held n 9 [c3] = some y3 by simpa [Value.cells, cellsStr] using hfs 3 _ rfl)
      obtain ⟨d', e4, rfl, w4⟩ := DataW.trod_string Tryd.underlying9 (show DataW.trod enc Tryd.prog W base spare held n 9 [c4] = some y4 by simpa [Value.cells, cellsStr] using hfs 4 _ rfl)
      obtain ⟨v', e5, rfl, w5⟩ := DataW.trod_int Tryd.underlying3 (show DataW.trod enc Tryd.prog W base spare held n 3 [c5] = some y5 by simpa [Value.cells, cellsInt] using hfs 5 _ rfl)
      obtain ⟨u', e6, rfl, w6⟩ := DataW.trod_int Tryd.underlying3 (show DataW.trod enc Tryd.prog W base spare held n 3 [c6] = some y6 by simpa [Value.cells, cellsInt] using hfs 6 _ rfl)
      simp only [List.cons.injEq, and_true] at e0 e1 e2 e3 e4 e5 e6
      subst e0 e1 e2 e3 e4 e5 e6
      obtain ⟨pl, rfl⟩ := ba_of p'
      obtain ⟨dl, rfl⟩ := ba_of d'
      simp only [Prod.mk.injEq] at hx
      exact ⟨⟨z, o, s, pl, dl, v', u'⟩, rfl, hx.1, hx.2, ⟨w0, w1, w2, w3, w4, w5, w6⟩⟩

theorem shut_txn {H : Type} {enc : TypeId × Value → H} {W : World} {base : Nat} {spare : Nat → Bool} {held : Bool} {t : WTxn} (h : TxnOk t) :
    DataW.Trod enc Tryd.prog W base spare held 29 (txnV t) (txnD t) [] := by
  have i : ∀ x : Int, (Lit.int .i64 x).wf = true → DataW.trod enc Tryd.prog W base spare held 1 3 [.int .i64 x] = some (.lit (.int .i64 x), []) := fun x hx => by simp [DataW.trod, Tryd.underlying3, hx]
  have g : ∀ l : List UInt8, (ByteArray.mk l.toArray).size ≤ maxLen → DataW.trod enc Tryd.prog W base spare held 1 9 [.string ⟨l.toArray⟩] = some (.lit (.string l), []) := fun l hl => by simp [DataW.trod, Tryd.underlying9, hl]
  have := trod_struct_mk (enc := enc) (w := W) (base := base) (spare := spare) (held := held) (n := 1) (cs := [.int .i64 t.z, .int .i64 t.o, .int .i64 t.s, .string ⟨t.p.toArray⟩, .string ⟨t.d.toArray⟩, .int .i64 t.v, .int .i64 t.w])
    (xs := [(.lit (.int .i64 t.z), []), (.lit (.int .i64 t.o), []), (.lit (.int .i64 t.s), []), (.lit (.string t.p), []), (.lit (.string t.d), []), (.lit (.int .i64 t.v), []), (.lit (.int .i64 t.w), [])])
    Tryd.underlying29 cellsTxn.symm (by simp [cellsInt, cellsStr, i _ h.z, i _ h.o, i _ h.s, g _ h.p, g _ h.d, i _ h.v, i _ h.w])
  exact ⟨2, by simpa [Value.cells, txnV, txnD] using this⟩

theorem sized_txn {H : Type} {ts : List TypeId} {ds : List (DataW H)} (h : (DataW.weightsEach Tryd.prog ts ds).all (· ≤ reachBytes) = true) {j : Nat} {t : WTxn} (ht : ts[j]? = some 29) (hd : ds[j]? = some (txnD t)) : t.p.length ≤ 140737488351232 ∧ t.d.length ≤ 140737488351232 := by
  have e : reachBytes = 140737488351232 := by decide
  have h1 := List.all_eq_true.1 h _ (DataW.weights_mem_each ht hd t.p.length (by simp [DataW.weights, txnD, Tryd.underlying29, DataW.weightsEach]))
  have h2 := List.all_eq_true.1 h _ (DataW.weights_mem_each ht hd t.d.length (by simp [DataW.weights, txnD, Tryd.underlying29, DataW.weightsEach]))
  rw [e] at h1 h2
  exact ⟨by simpa using h1, by simpa using h2⟩

end Go.Proofs.YtpoblkionpgljaaDoor

namespace Go.Proofs.YtpoblkionpgljaaDoor
open Go.ChangeShapes Go.WideShapes Go.ChangeAt Go.RowKit Go.ChangeMaps

theorem cellsLog : Tryd.prog.cellsOf 22 = 1 := by kernel_rfl
theorem bytesTxn : Tryd.prog.bytesOf 29 = 72 := by kernel_rfl

section
variable {H : Type} {enc : TypeId × Value → H} {W : World} {base : Nat} {spare : Nat → Bool} {held : Bool}
set_option maxRecDepth 10000 in
theorem open_one {n : Nat} {cs : List Value} {x : DataW H × List MemPlace} (hl : cs.length = 7) (h : DataW.trod enc Tryd.prog W base spare held n 29 cs = some x) : ∃ t : WTxn, cs = tcells t ∧ x.1 = txnD t ∧ TxnOk t := by
  match cs, hl with
  | [c0, c1, c2, c3, c4, c5, c6], _ =>
    obtain ⟨xs, n, _, hx, _, hlen, hfs⟩ := DataW.trod_struct Tryd.underlying29 h
    match xs, hlen with
    | [y0, y1, y2, y3, y4, y5, y6], _ =>
      obtain ⟨z, e0, rfl, w0⟩ := DataW.trod_int Tryd.underlying3 (show DataW.trod enc Tryd.prog W base spare held n 3 [c0] = some y0 by simpa [cellsInt] using hfs 0 _ rfl)
      obtain ⟨o, e1, rfl, w1⟩ := DataW.trod_int Tryd.underlying3 (show DataW.trod enc Tryd.prog W base spare held n 3 [c1] = some y1 by simpa [cellsInt] using hfs 1 _ rfl)
      obtain ⟨s, e2, rfl, w2⟩ := DataW.trod_int Tryd.underlying3 (show DataW.trod enc Tryd.prog W base spare held n 3 [c2] = some y2 by simpa [cellsInt] using hfs 2 _ rfl)
      obtain ⟨p', e3, rfl, w3⟩ := DataW.trod_string Tryd.underlying9 (show DataW.trod enc Tryd.prog W base spare held n 9 [c3] = some y3 by simpa [cellsStr] using hfs 3 _ rfl)
      obtain ⟨d', e4, rfl, w4⟩ := DataW.trod_string Tryd.underlying9 (show DataW.trod enc Tryd.prog W base spare held n 9 [c4] = some y4 by simpa [cellsStr] using hfs 4 _ rfl)
      obtain ⟨v', e5, rfl, w5⟩ := DataW.trod_int Tryd.underlying3 (show DataW.trod enc Tryd.prog W base spare held n 3 [c5] = some y5 by simpa [cellsInt] using hfs 5 _ rfl)
      obtain ⟨u', e6, rfl, w6⟩ := DataW.trod_int Tryd.underlying3 (show DataW.trod enc Tryd.prog W base spare held n 3 [c6] = some y6 by simpa [cellsInt] using hfs 6 _ rfl)
      simp only [List.cons.injEq, and_true] at e0 e1 e2 e3 e4 e5 e6
      subst e0 e1 e2 e3 e4 e5 e6
      obtain ⟨pl, rfl⟩ := ba_of p'
      obtain ⟨dl, rfl⟩ := ba_of d'
      subst hx
      exact ⟨⟨z, o, s, pl, dl, v', u'⟩, rfl, rfl, ⟨w0, w1, w2, w3, w4, w5, w6⟩⟩
theorem weights_txn (t : WTxn) : DataW.weights Tryd.prog 29 (txnD t : DataW H) = [t.p.length, t.d.length] := by
  simp [DataW.weights, txnD, Tryd.underlying29, DataW.weightsEach]

set_option maxRecDepth 10000 in
theorem open_log {r : Reach} {b0 : Nat} {v : Value} {d : DataW H} {p : List MemPlace}
    (hv : Value.okWide Tryd.prog W r b0 22 v) (h : DataW.Trod enc Tryd.prog W base spare held 22 v d p) :
    ∃ ts, LogV W v ts ∧ (∀ t ∈ ts, TxnOk t) ∧ ∀ M, (∀ x ∈ DataW.weights Tryd.prog 22 d, x ≤ M) → (∀ t ∈ ts, t.p.length ≤ M ∧ t.d.length ≤ M) ∧ ts.length * 72 ≤ M := by
  obtain ⟨fuel, hf⟩ := h
  obtain ⟨sa, sl, sc, rfl⟩ := okWide_slice Tryd.underlying22 hv
  have hf' : DataW.trod enc Tryd.prog W base spare held fuel 22 [.slice sa sl sc] = some (d, p) := by simpa [Value.cells] using hf
  clear hf
  rcases Go.Deep.open_slice Tryd.underlying22 hf' with ⟨h1, hx⟩ | ⟨a, len, cap, m, k, D, Pl, h1, hb, hl, hm, hmm, hx, hel⟩
  · simp only [List.cons.injEq, and_true] at h1
    rw [h1]
    exact ⟨[], LogV.nil W, by simp, fun M _ => ⟨by simp, by simp⟩⟩
  · simp only [List.cons.injEq, and_true] at h1
    rw [h1]
    simp only [Prod.mk.injEq] at hx
    obtain ⟨rfl, _⟩ := hx
    have hlm : len ≤ m := by rw [hmm]; split <;> omega
    have each : ∀ i, i < len → ∃ t : WTxn, (∀ c, c < 7 → W.cell? (a.add (i * 7 + c)) = (tcells t)[c]?) ∧ D i = txnD t ∧ TxnOk t := by
      intro i hi
      obtain ⟨cs', g1, g2⟩ := hel i (by omega)
      rw [cellsTxn] at g1
      obtain ⟨_, hlen, hcell⟩ := World.cells?_some g1
      obtain ⟨t, rfl, hd, hok⟩ := open_one hlen g2
      refine ⟨t, fun c hc => ?_, hd, hok⟩
      have := hcell c hc
      rwa [Go.Deep.add_add] at this
    have : Inhabited WTxn := ⟨t0⟩
    obtain ⟨F, hF⟩ := Go.Deep.choose_lt each
    refine ⟨(List.range len).map F, ?_, ?_, ?_⟩
    · by_cases h0 : len = 0
      · subst h0
        exact .inl ⟨some a, cap, rfl, rfl, hm⟩
      · have c0 := (hF 0 (by omega)).1 0 (by decide)
        obtain ⟨b, off, sp⟩ := a
        have hsp : sp = none := by
          cases sp with
          | none => rfl
          | some s => simp [World.cell?, Addr.add, tcells] at c0; split at c0 <;> simp at c0
        subst hsp
        have hblt : b < W.heap.size := World.block_lt_of_cell? W _ (show W.cell? ((⟨b, off, none⟩ : Addr).add (0 * 7 + 0)) = some _ from c0) |> fun h => by simpa [Addr.add] using h
        refine .inr ⟨b, off, cap, by simp, by simpa using hl, hm, hblt, by simp; omega, fun j u hj => ?_⟩
        have hjl : j < len * 7 := by
          have := (List.getElem?_eq_some_iff.1 hj).1
          rw [cellsT_length] at this
          simpa using this
        have hi : j / 7 < len := by omega
        have hg := cellsT_get ((List.range len).map F) (j / 7) (F (j / 7)) (by simp [hi]) (j % 7) (by omega)
        rw [show j / 7 * 7 + j % 7 = j by omega, hj] at hg
        have := (hF (j / 7) hi).1 (j % 7) (by omega)
        rw [show j / 7 * 7 + j % 7 = j by omega, Addr.add_lit, ← hg] at this
        exact this
    · intro t ht
      obtain ⟨i, hi, rfl⟩ := List.mem_map.1 ht
      exact (hF i (by simpa using hi)).2.2
    · intro M hM
      have hw : DataW.weights Tryd.prog 22 (.slice ((List.range len).map D) ((List.range (m - len)).map fun j => D (len + j)) : DataW H) =
          (len + (m - len)) * 72 :: (DataW.weightsAll Tryd.prog 29 ((List.range len).map D) ++ DataW.weightsAll Tryd.prog 29 ((List.range (m - len)).map fun j => D (len + j))) := by
        simp [DataW.weights, Tryd.underlying22, bytesTxn]
      rw [hw] at hM
      refine ⟨fun t ht => ?_, ?_⟩
      · obtain ⟨i, hi, rfl⟩ := List.mem_map.1 ht
        have hi' : i < len := by simpa using hi
        have key : ∀ x ∈ DataW.weights Tryd.prog 29 (D i), x ≤ M := fun x hx => hM x (List.mem_cons_of_mem _ (List.mem_append.2 (.inl (weightsAll_mem _ (D i) x (List.mem_map.2 ⟨i, hi, rfl⟩) hx))))
        rw [(hF i hi').2.1, weights_txn] at key
        exact ⟨key _ (by simp), key _ (by simp)⟩
      · have := hM _ (List.mem_cons_self ..)
        simp only [List.length_map, List.length_range]
        omega
theorem sized_log {ts : List TypeId} {ds : List (DataW H)} (h : (DataW.weightsEach Tryd.prog ts ds).all (· ≤ reachBytes) = true) {j : Nat} {d : DataW H} (ht : ts[j]? = some 22) (hd : ds[j]? = some d) : ∀ x ∈ DataW.weights Tryd.prog 22 d, x ≤ 140737488351232 := by
  intro x hx
  have e : reachBytes = 140737488351232 := by decide
  have h1 := List.all_eq_true.1 h _ (DataW.weights_mem_each ht hd x hx)
  rw [e] at h1
  simpa using h1
end
end Go.Proofs.YtpoblkionpgljaaDoor
