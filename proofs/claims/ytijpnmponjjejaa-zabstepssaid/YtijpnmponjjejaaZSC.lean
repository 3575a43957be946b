/-
  The law ZabSteps: the walk.
  A peer, lists of peers and lists of logs, as arguments: opened; what their weights say of their lengths.
-/
import Derived.Test.YtijpnmponjjejaaZSB
import Derived.Deep.QuietTactic
import Derived.Test.YtijpnmponjjejaaZSA
import Derived.Test.YtijpnmponjjejaaRows
import Derived.ProofKit
import Derived.OpenShut
import Derived.SizedLaws
import Derived.Deep.Slices
import Derived.Carry
namespace Go.Proofs.Ytijpnmponjjejaa
open Go.RowKit

theorem nx_bad {ep z : Int} (h : nxE ep z ≠ 0) : nxN ep z = 0 := by
  unfold nxE at h
  unfold nxN
  by_cases h1 : ep ≤ zEpoch z
  · simp only [h1, if_true] at h ⊢
    cases hg : zGood z
    · exact (zNext_bad hg).1
    · cases hi : zIn (z % 2147483648 + 1)
      · exact (zNext_full hg hi).1
      · exact absurd (zNext_ok hg hi).2 h
  · simp only [h1, if_false] at h ⊢
    by_cases h2 : zMakeE ep 0 = 0
    · simp only [h2, if_true] at h ⊢
      cases hg : zGood (zMake ep 0)
      · exact (zNext_bad hg).1
      · cases hi : zIn (zMake ep 0 % 2147483648 + 1)
        · exact (zNext_full hg hi).1
        · exact absurd (zNext_ok hg hi).2 h
    · simp [h2]
theorem nx_good {ep z : Int} (h : nxE ep z = 0) (hz : zGood z = true) : nxN ep z > z ∧ zGood (nxN ep z) = true ∧ zEpoch (nxN ep z) ≥ ep ∧ zEpoch (nxN ep z) ≥ zEpoch z ∧ zCount (nxN ep z) > 0 := by
  have gz := zGood_iff.1 hz
  unfold nxE at h
  by_cases h1 : ep ≤ zEpoch z
  · have e : nxN ep z = zNext z := by simp [nxN, h1]
    simp only [h1, if_true] at h
    cases hi : zIn (z % 2147483648 + 1)
    · have := (zNext_full hz hi).2
      omega
    · have hin := zIn_iff.1 hi
      rw [e, (zNext_ok hz hi).1]
      have g1 : zGood (z + 1) = true := zGood_iff.2 ⟨by omega, by omega⟩
      have e1 : zEpoch (z + 1) = zEpoch z := by rw [zEpoch_yes g1, zEpoch_yes hz]; omega
      refine ⟨by omega, g1, by omega, by omega, ?_⟩
      rw [zCount_yes g1]; omega
  · simp only [h1, if_false] at h
    by_cases h2 : zMakeE ep 0 = 0
    · simp only [h2, if_true] at h
      have e : nxN ep z = zNext (zMake ep 0) := by simp [nxN, h1, h2]
      have he : zIn ep = true := by
        cases hh : zIn ep with
        | true => rfl
        | false => have := (zMake_no (c := 0) (.inl hh)).2; omega
      have hi := zIn_iff.1 he
      have hm := (zMake_yes he (show zIn 0 = true by decide)).1
      have gm : zGood (zMake ep 0) = true := zGood_iff.2 (by rw [hm]; omega)
      have gi : zIn (zMake ep 0 % 2147483648 + 1) = true := zIn_iff.2 (by rw [hm]; omega)
      rw [e, (zNext_ok gm gi).1, hm]
      have g1 : zGood (ep * 2147483648 + 0 + 1) = true := zGood_iff.2 ⟨by omega, by omega⟩
      have ez := zEpoch_yes hz
      have e1 : zEpoch (ep * 2147483648 + 0 + 1) = ep := by rw [zEpoch_yes g1]; omega
      refine ⟨by omega, g1, by omega, by omega, ?_⟩
      rw [zCount_yes g1]; omega
    · rw [if_neg h2] at h
      exact absurd h h2

set_option maxRecDepth 10000 in
set_option maxHeartbeats 2000000 in
theorem zabSteps_walk (p : Pe) (w : World) (hp : LogV w p.log p.ts) (hf : p.ts.length * 72 ≤ 140737488351232) :
    Calls Try.prog 7 #[peV p] w fun e w' => e = .returned (.bool true) ∧ Below w.heap.size w w' := by
  obtain ⟨W0, hW0⟩ : ∃ W0, W0 = w.alloc (.cells #[.int .i64 p.id, .int .i64 p.ep, .slice p.a p.ts.length p.c, .int .i64 p.dn] 29) := ⟨_, rfl⟩
  have B0 : Below w.heap.size w W0 := by rw [hW0]; exact allocB _ _
  have P0 : PBox W0 w.heap.size p := by rw [hW0]; exact PBox.new w p
  obtain ⟨W1, hW1⟩ : ∃ W1, W1 = W0.alloc (.cells #[.int .i64 p.id, .int .i64 p.ep, .slice p.a p.ts.length p.c, .int .i64 p.dn] 29) := ⟨_, rfl⟩
  have B1 : Below W0.heap.size W0 W1 := by rw [hW1]; exact allocB _ _
  have S1 : SeqV W1 (.slice (some ⟨W0.heap.size, 0, none⟩) 1 1) [p] := by rw [hW1]; exact seq_one (pone W0 p)
  have C1 := hide (others_any _ [p] [p] 0 W1 S1 (fun q hq => by rw [List.mem_singleton.1 hq]; exact hp.next (nnext B0 B1)) ⟨by simp, fun q hq => by rw [List.mem_singleton.1 hq]; exact hf⟩ (Nat.zero_le _) rfl (fun k hk => by simp at hk; subst hk; rfl))
  have C0 := last_any p.log p.ts W0 (hp.next B0)
  have CN := hide (fun q W h => next_any q W h)
  have HB1 := hide (nnext B0 B1)
  have HP1 := hide (P0.next B1)
  have HNB := hide (nx_bad (ep := p.ep) (z := lastZ p.ts))
  have HNG := hide (nx_good (ep := p.ep) (z := lastZ p.ts))
  have e0 := P0.c0
  have e1 := P0.c1
  have e2 := P0.c2
  have e3 := P0.c3
  obtain ⟨i, ep, a, c, ts, dn⟩ := p
  simp only [Pe.log] at *
  unfold peV at *
  simp only at *
  clear S1 B0 P0 B1 hp hf
  go_enter Try.func7, Try.ntmps7
  go_upto_region 1 with fail
  rw [← hW0]
  have HW1 := hide hW1
  clear hW0 hW1
  go_wp2_with fail
  refine C0.mono ?_
  rintro e w1 ⟨rfl, rfl⟩
  go_wp2_with fail
  rw [← unhide HW1]
  refine (unhide C1).mono ?_
  rintro e w1 h1
  obtain ⟨q, g, cc, rfl, hq1, hq2, hql, d0, d1, d2, d3, hb1⟩ := own_one h1
  have CN1 := unhide CN q w1 hql
  rw [hq1, hq2] at CN1
  have HP2 := hide ((unhide HP1).next hb1)
  have HB2 := hide (nnext (unhide HB1) hb1)
  obtain ⟨qi, qe, qa, qc, qt, qd⟩ := q
  simp only at hq1 hq2 CN1 d0 d1 d2 d3
  subst hq1 hq2
  clear h1 hql hb1 HW1
  generalize lastZ qt = z at *
  generalize nxN qe z = R at *
  generalize nxE qe z = E at *
  go_wp2_with fail
  refine CN1.mono ?_
  rintro e w2 ⟨rfl, hb2⟩
  have P3 := (unhide HP2).next hb2
  have HB3 := hide (nnext (unhide HB2) hb2)
  have HP3 := hide P3
  clear hb2 d0 d1 d2 d3 e0 e1 e2 e3 P3
  by_cases hE : E = 0
  · subst hE
    cases hz : zGood z
    · have CG := zgood_any z
      rw [hz] at CG
      clear hz
      go_wp2_with fail
      refine (CG _).mono ?_
      rintro e w3 ⟨rfl, rfl⟩
      go_wp2_with fail
      refine (elects_any _).mono ?_
      rintro e w3 ⟨rfl, hb3⟩
      have HB4 := hide (nnext (unhide HB3) hb3)
      clear hb3
      go_wp2_with fail
      go_ret
      exact ⟨rfl, unhide HB4⟩
    · obtain ⟨g1, g2, g3, g4, g5⟩ := unhide HNG rfl hz
      have CG := zgood_any z
      rw [hz] at CG
      have CGn := zgood_any R
      rw [g2] at CGn
      clear hz g2 HNB HNG
      go_wp2_with fail
      refine (CG _).mono ?_
      rintro e w3 ⟨rfl, rfl⟩
      go_wp2_with fail
      refine (elects_any _).mono ?_
      rintro e w3 ⟨rfl, hb3⟩
      have HB4 := hide (nnext (unhide HB3) hb3)
      have f1 := ((unhide HP3).next hb3).c1
      simp only at f1
      clear hb3
      go_wp2_with fail
      go_quiet (first | (go_at_call 23; exact Calls.quiet_of_same (CGn _)) | (go_at_call 21; exact Calls.quiet_of_same (zepoch_any _ _)) | (go_at_call 24; exact Calls.quiet_of_same (zcount_any _ _)))
      go_wp2_with fail
      go_ret
      exact ⟨rfl, belowN (unhide HB4)⟩
  · obtain rfl := unhide HNB hE
    go_wp2_with fail
    refine (elects_any _).mono ?_
    rintro e w3 ⟨rfl, hb3⟩
    have HB4 := hide (nnext (unhide HB3) hb3)
    clear hb3
    go_wp2_with fail
    go_ret
    exact ⟨rfl, unhide HB4⟩
end Go.Proofs.Ytijpnmponjjejaa

namespace Go.Proofs.Ytijpnmponjjejaa
open Go.ChangeShapes Go.WideShapes Go.ChangeAt Go.RowKit Go.ChangeMaps

theorem zcellsStr : Try.prog.cellsOf 9 = 1 := by kernel_rfl
theorem zcellsInt : Try.prog.cellsOf 3 = 1 := by kernel_rfl
theorem zcellsTxn : Try.prog.cellsOf 47 = 7 := by kernel_rfl
theorem zcellsPeer : Try.prog.cellsOf 29 = 4 := by kernel_rfl
theorem zcellsLog : Try.prog.cellsOf 27 = 1 := by kernel_rfl
theorem zbytesTxn : Try.prog.bytesOf 47 = 72 := by kernel_rfl
theorem zlaidOut : laidOutB Try.prog = true := by kernel_rfl
theorem zlist_of (s : ByteArray) : ∃ l : List UInt8, s = ⟨l.toArray⟩ := ⟨s.data.toList, rfl⟩

section
variable {H : Type} {enc : TypeId × Value → H} {W : World} {base : Nat} {spare : Nat → Bool} {held : Bool}
set_option maxRecDepth 10000 in
theorem zopen_txn {n : Nat} {cs : List Value} {x : DataW H × List MemPlace} (hl : cs.length = 7) (h : DataW.trod enc Try.prog W base spare held n 47 cs = some x) : ∃ t : WTxn, cs = tcells t ∧ t.z ≤ 9223372036854775807 := by
  match cs, hl with
  | [c0, c1, c2, c3, c4, c5, c6], _ =>
    obtain ⟨xs, n, _, hx, _, hlen, hfs⟩ := DataW.trod_struct Try.underlying47 h
    match xs, hlen with
    | [y0, y1, y2, y3, y4, y5, y6], _ =>
      obtain ⟨z, e0, rfl, w0⟩ := DataW.trod_int Try.underlying3 (show DataW.trod enc Try.prog W base spare held n 3 [c0] = some y0 by simpa [zcellsInt] using hfs 0 _ rfl)
      obtain ⟨o, e1, rfl, _⟩ := DataW.trod_int Try.underlying3 (show DataW.trod enc Try.prog W base spare held n 3 [c1] = some y1 by simpa [zcellsInt] using hfs 1 _ rfl)
      obtain ⟨s, e2, rfl, _⟩ := DataW.trod_int Try.underlying3 (show DataW.trod enc Try.prog W base spare held n 3 [c2] = some y2 by simpa [zcellsInt] using hfs 2 _ rfl)
      obtain ⟨p', e3, rfl, _⟩ := DataW.trod_string Try.underlying9 (show DataW.trod enc Try.prog W base spare held n 9 [c3] = some y3 by simpa [zcellsStr] using hfs 3 _ rfl)
      obtain ⟨d', e4, rfl, _⟩ := DataW.trod_string Try.underlying9 (show DataW.trod enc Try.prog W base spare held n 9 [c4] = some y4 by simpa [zcellsStr] using hfs 4 _ rfl)
      obtain ⟨v', e5, rfl, _⟩ := DataW.trod_int Try.underlying3 (show DataW.trod enc Try.prog W base spare held n 3 [c5] = some y5 by simpa [zcellsInt] using hfs 5 _ rfl)
      obtain ⟨u', e6, rfl, _⟩ := DataW.trod_int Try.underlying3 (show DataW.trod enc Try.prog W base spare held n 3 [c6] = some y6 by simpa [zcellsInt] using hfs 6 _ rfl)
      simp only [List.cons.injEq, and_true] at e0 e1 e2 e3 e4 e5 e6
      subst e0 e1 e2 e3 e4 e5 e6
      obtain ⟨pl, rfl⟩ := zlist_of p'
      obtain ⟨dl, rfl⟩ := zlist_of d'
      exact ⟨⟨z, o, s, pl, dl, v', u'⟩, rfl, (bounds_i64 w0).2⟩
theorem zweightsAll_mem {e : TypeId} : ∀ (l : List (DataW H)) (d : DataW H) (x : Nat), d ∈ l → x ∈ DataW.weights Try.prog e d → x ∈ DataW.weightsAll Try.prog e l
  | d' :: r, d, x, h, hx => by
    rw [DataW.weightsAll]
    rcases List.mem_cons.1 h with rfl | h
    · exact List.mem_append.2 (.inl hx)
    · exact List.mem_append.2 (.inr (zweightsAll_mem r d x h hx))
set_option maxRecDepth 10000 in
/-- a slice of elements that are laid in a row, and what is known of each -/
theorem open_seqP {α : Type} [Lay α] (al : α) {T E : TypeId} (hU : Try.prog.underlying T = some (.slice E)) (hk : Try.prog.cellsOf E = Lay.k α) (hk0 : 0 < Lay.k α) {bytes : Nat} (hby : Try.prog.bytesOf E = bytes) (P : α → Prop) (Q : Nat → α → Prop)
    (ho : ∀ {n : Nat} {cs : List Value} {x : DataW H × List MemPlace}, cs.length = Lay.k α → DataW.trod enc Try.prog W base spare held n E cs = some x → ∃ f : α, cs = Lay.cs f ∧ P f ∧ ∀ M, (∀ y ∈ DataW.weights Try.prog E x.1, y ≤ M) → Q M f)
    {fuel : Nat} {v : Value} {y : DataW H × List MemPlace} (h : DataW.trod enc Try.prog W base spare held fuel T [v] = some y) :
    ∃ xs : List α, SeqV W v xs ∧ (∀ x ∈ xs, P x) ∧ ∀ M, (∀ x ∈ DataW.weights Try.prog T y.1, x ≤ M) → xs.length * bytes ≤ M ∧ ∀ x ∈ xs, Q M x := by
  rcases Go.Deep.open_slice hU h with ⟨h1, hx⟩ | ⟨a, len, cap, m, k, D, Pl, h1, hb, hl, hm, hmm, hx, hel⟩
  · simp only [List.cons.injEq, and_true] at h1
    rw [h1]
    exact ⟨[], SeqV.nil W, by simp, fun M _ => ⟨by simp, by simp⟩⟩
  · simp only [List.cons.injEq, and_true] at h1
    rw [h1]
    subst hx
    have hlm : len ≤ m := by rw [hmm]; split <;> omega
    have each : ∀ i, i < len → ∃ f : α, (∀ c, c < Lay.k α → W.cell? (a.add (i * Lay.k α + c)) = (Lay.cs f)[c]?) ∧ P f ∧ ∀ M, (∀ y ∈ DataW.weights Try.prog E (D i), y ≤ M) → Q M f := by
      intro i hi
      obtain ⟨cs', g1, g2⟩ := hel i (by omega)
      rw [hk] at g1
      obtain ⟨_, hlen, hcell⟩ := World.cells?_some g1
      obtain ⟨f, rfl, hp, hq⟩ := ho hlen g2
      refine ⟨f, fun c hc => ?_, hp, hq⟩
      have := hcell c hc
      rwa [Go.Deep.add_add] at this
    have : Inhabited α := ⟨al⟩
    obtain ⟨F, hF⟩ := Go.Deep.choose_lt each
    refine ⟨(List.range len).map F, ?_, ?_, ?_⟩
    · by_cases h0 : len = 0
      · subst h0
        exact .inl ⟨some a, cap, rfl, rfl, hm⟩
      · have c0 := (hF 0 (by omega)).1 0 hk0
        obtain ⟨y, hy⟩ : ∃ y, (Lay.cs (F 0))[0]? = some y := ⟨_, List.getElem?_eq_getElem (by rw [Lay.len]; exact hk0)⟩
        rw [hy] at c0
        obtain ⟨b, off, sp⟩ := a
        have hsp : sp = none := by
          cases sp with
          | none => rfl
          | some s => simp [World.cell?, Addr.add] at c0; split at c0 <;> simp at c0
        subst hsp
        have hblt : b < W.heap.size := World.block_lt_of_cell? W _ (show W.cell? ((⟨b, off, none⟩ : Addr).add (0 * Lay.k α + 0)) = some _ from c0) |> fun h => by simpa [Addr.add] using h
        refine .inr ⟨b, off, cap, by simp, by simpa using hl, hm, hblt, by simp; omega, fun j u hj => ?_⟩
        have hjl : j < len * Lay.k α := by
          have := (List.getElem?_eq_some_iff.1 hj).1
          rw [cellsL_length, List.length_map, List.length_range] at this
          exact this
        have hi : j / Lay.k α < len := Nat.div_lt_of_lt_mul (by rw [Nat.mul_comm]; exact hjl)
        have hm' : j % Lay.k α < Lay.k α := Nat.mod_lt _ hk0
        have hdm : j / Lay.k α * Lay.k α + j % Lay.k α = j := by rw [Nat.mul_comm]; exact Nat.div_add_mod j _
        have hg := cellsL_get ((List.range len).map F) (j / Lay.k α) (F (j / Lay.k α)) (by rw [List.getElem?_map, List.getElem?_range hi]; rfl) (j % Lay.k α) hm'
        rw [hdm, hj] at hg
        have := (hF (j / Lay.k α) hi).1 (j % Lay.k α) hm'
        rw [hdm, Addr.add_lit, ← hg] at this
        exact this
    · intro x hx
      obtain ⟨i, hi, rfl⟩ := List.mem_map.1 hx
      exact (hF i (by simpa using hi)).2.1
    · intro M hM
      have hw' : DataW.weights Try.prog T (.slice ((List.range len).map D) ((List.range (m - len)).map fun j => D (len + j)) : DataW H) =
          (len + (m - len)) * bytes :: (DataW.weightsAll Try.prog E ((List.range len).map D) ++ DataW.weightsAll Try.prog E ((List.range (m - len)).map fun j => D (len + j))) := by
        simp [DataW.weights, hU, hby]
      rw [hw'] at hM
      refine ⟨?_, fun f hf => ?_⟩
      · have := hM _ (List.mem_cons_self ..)
        simp only [List.length_map, List.length_range]
        exact Nat.le_trans (Nat.mul_le_mul_right _ (by omega)) this
      · obtain ⟨i, hi, rfl⟩ := List.mem_map.1 hf
        have hi' : i < len := by simpa using hi
        exact (hF i hi').2.2 M fun x hx => hM x (List.mem_cons_of_mem _ (List.mem_append.2 (.inl (zweightsAll_mem _ (D i) x (List.mem_map.2 ⟨i, hi, rfl⟩) hx))))

/-- a log's value holds these; what is known of them -/
structure ZLog (W : World) (v : Value) (ts : List WTxn) : Prop where
  log : LogV W v ts
  z : ∀ t ∈ ts, t.z ≤ 9223372036854775807
theorem zopen_log {fuel : Nat} {v : Value} {y : DataW H × List MemPlace} (h : DataW.trod enc Try.prog W base spare held fuel 27 [v] = some y) :
    ∃ (a : Option Addr) (c : Nat) (ts : List WTxn), v = .slice a ts.length c ∧ ZLog W v ts ∧ ∀ M, (∀ x ∈ DataW.weights Try.prog 27 y.1, x ≤ M) → ts.length * 72 ≤ M := by
  obtain ⟨ts, h1, h2, h3⟩ := open_seqP (⟨0, 0, 0, [], [], 0, 0⟩ : WTxn) Try.underlying27 zcellsTxn (by decide) zbytesTxn (fun t => t.z ≤ 9223372036854775807) (fun _ _ => True) (fun hl h => by obtain ⟨t, e, hz⟩ := zopen_txn hl h; exact ⟨t, e, hz, fun _ _ => trivial⟩) h
  obtain ⟨a, c, e⟩ := log_slice (seq_log.1 h1)
  exact ⟨a, c, ts, e, ⟨seq_log.1 h1, h2⟩, fun M hM => (h3 M hM).1⟩
set_option maxRecDepth 10000 in
theorem zopen_pe {n : Nat} {cs : List Value} {x : DataW H × List MemPlace} (hl : cs.length = 4) (h : DataW.trod enc Try.prog W base spare held n 29 cs = some x) :
    ∃ p : Pe, cs = pcells p ∧ ZLog W p.log p.ts ∧ ∀ M, (∀ y ∈ DataW.weights Try.prog 29 x.1, y ≤ M) → p.ts.length * 72 ≤ M := by
  match cs, hl with
  | [c0, c1, c2, c3], _ =>
    obtain ⟨xs, n, _, hx, _, hlen, hfs⟩ := DataW.trod_struct Try.underlying29 h
    match xs, hlen with
    | [y0, y1, y2, y3], _ =>
      obtain ⟨i, e0, rfl, _⟩ := DataW.trod_int Try.underlying3 (show DataW.trod enc Try.prog W base spare held n 3 [c0] = some y0 by simpa [zcellsInt] using hfs 0 _ rfl)
      obtain ⟨ep, e1, rfl, _⟩ := DataW.trod_int Try.underlying3 (show DataW.trod enc Try.prog W base spare held n 3 [c1] = some y1 by simpa [zcellsInt] using hfs 1 _ rfl)
      obtain ⟨a, c, ts, e2, hL, hM⟩ := zopen_log (show DataW.trod enc Try.prog W base spare held n 27 [c2] = some y2 by simpa [zcellsInt, zcellsLog] using hfs 2 _ rfl)
      obtain ⟨dn, e3, rfl, _⟩ := DataW.trod_int Try.underlying3 (show DataW.trod enc Try.prog W base spare held n 3 [c3] = some y3 by simpa [zcellsInt, zcellsLog] using hfs 3 _ rfl)
      simp only [List.cons.injEq, and_true] at e0 e1 e3
      subst e0 e1 e2 e3 hx
      refine ⟨⟨i, ep, a, c, ts, dn⟩, rfl, hL, fun M hW => hM M fun q hq => hW q ?_⟩
      simp [DataW.weights, Try.underlying29, DataW.weightsEach, hq]
set_option maxRecDepth 10000 in
theorem open_peer {r : Reach} {b0 : Nat} {v : Value} {d : DataW H} {p : List MemPlace} (hv : Value.okWide Try.prog W r b0 29 v) (h : DataW.Trod enc Try.prog W base spare held 29 v d p) :
    ∃ pe : Pe, v = peV pe ∧ ZLog W pe.log pe.ts ∧ ∀ M, (∀ y ∈ DataW.weights Try.prog 29 d, y ≤ M) → pe.ts.length * 72 ≤ M := by
  obtain ⟨cs, rfl, hsz⟩ := okWide_struct Try.underlying29 hv
  obtain ⟨fuel, hf⟩ := h
  obtain ⟨f, h1, h2, h3⟩ := zopen_pe (hsz.trans zcellsPeer) (show DataW.trod enc Try.prog W base spare held fuel 29 cs.toList = some (d, p) by simpa [Value.cells] using hf)
  refine ⟨f, ?_, h2, h3⟩
  obtain ⟨l⟩ := cs
  simp only at h1
  subst h1
  rfl
theorem zsized {ts : List TypeId} {ds : List (DataW H)} (h : (DataW.weightsEach Try.prog ts ds).all (· ≤ reachBytes) = true) {j : Nat} {T : TypeId} {d : DataW H} (ht : ts[j]? = some T) (hd : ds[j]? = some d) : ∀ x ∈ DataW.weights Try.prog T d, x ≤ 140737488351232 := by
  intro x hx
  have e : reachBytes = 140737488351232 := by decide
  have h1 := List.all_eq_true.1 h _ (DataW.weights_mem_each ht hd x hx)
  rw [e] at h1
  simpa using h1
end
end Go.Proofs.Ytijpnmponjjejaa
