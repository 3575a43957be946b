/-
  The law ZabLeads: the walk.
  A peer, lists of peers and lists of logs, as arguments: opened; what their weights say of their lengths.
-/
import Derived.Test.YtijpnmponjjejaaZLA
import Derived.Test.YtijpnmponjjejaaZLB
import Derived.Deep.QuietTactic
import Derived.Test.YtijpnmponjjejaaRows
import Derived.ProofKit
import Derived.OpenShut
import Derived.SizedLaws
import Derived.Deep.Slices
import Derived.Carry
namespace Go.Proofs.Ytijpnmponjjejaa
open Go.RowKit

theorem kk_of_pk {ps qs : List Pe} (h : qs.map pk = ps.map pk) : qs.map kk = ps.map kk := by
  have := congrArg (List.map (fun t : Int × Int × List WTxn => ((t.1, t.2.1, lastZ t.2.2) : Key))) h
  rw [List.map_map, List.map_map] at this
  exact this
theorem ans_no {ks : List Key} {k n E : Int} (h : EAns ks k n E) (hE : E ≠ 0) : k = 0 ∧ n = 0 := by
  obtain ⟨A, _, ⟨_, h1, h2, _⟩ | ⟨_, ⟨_, h1, h2, _⟩ | ⟨_, ⟨_, h1, h2, _⟩ | ⟨_, _, _, h1⟩⟩⟩⟩ := h
  · exact ⟨h1, h2⟩
  · exact ⟨h1, h2⟩
  · exact ⟨h1, h2⟩
  · exact absurd h1 hE
theorem ans_len {ks : List Key} {k n : Int} (h : EAns ks k n 0) : Adm ks 0 ∧ 2 ≤ ks.length := by
  obtain ⟨A, hA, ⟨h0, _, _, h1⟩ | ⟨rfl, ⟨_, _, _, h1⟩ | ⟨h2, _⟩⟩⟩ := h
  · exact absurd h1.symm h0
  · omega
  · exact ⟨hA, h2⟩
def rotP (ps : List Pe) (f : Nat) : List Pe := (List.range ps.length).map (fun i => ps.getD ((i + f) % ps.length) pe0)
theorem rotP_len (ps : List Pe) (f : Nat) : (rotP ps f).length = ps.length := by simp [rotP]
theorem rotP_get (ps : List Pe) (f k : Nat) (hk : k < ps.length) : (rotP ps f)[k]? = ps[(k + f) % ps.length]? := by
  have hm : (k + f) % ps.length < ps.length := Nat.mod_lt _ (by omega)
  unfold rotP
  rw [List.getElem?_map, List.getElem?_range hk, List.getElem?_eq_getElem hm]
  simp [List.getD_eq_getElem?_getD, hm]
theorem get_map {ps : List Pe} {i : Nat} {x : Key} (h : (ps.map kk)[i]? = some x) : ∃ p, ps[i]? = some p ∧ kk p = x := by
  rw [List.getElem?_map] at h
  exact Option.map_eq_some_iff.1 h

set_option maxRecDepth 10000 in
set_option maxHeartbeats 4000000 in
theorem zabLeads_walk (v : Value) (ps : List Pe) (fr : Int) (w : World) (hv : SeqV w v ps) (hL : PLogs w ps) (hF : PFit ps) (hr0 : -9223372036854775808 ≤ fr) (hr1 : fr ≤ 9223372036854775807) :
    Calls Try.prog 6 #[v, .int .i64 fr] w fun e w' => e = .returned (.bool true) ∧ Below w.heap.size w w' := by
  have hlen : ps.length ≤ 140737488355328 := by have := hF.len; omega
  obtain ⟨k, n, E, hA⟩ := ans_ex (ps.map kk)
  have C1 := others_any v ps ps 0 w hv hL hF (Nat.zero_le _) rfl (fun k hk => by rw [Nat.add_zero, Nat.mod_eq_of_lt hk])
  have CE := hide (fun v1 qs W h1 h2 (h3 : qs.map pk = ps.map pk) => elect_any v1 qs W k n E h1 h2 (by rw [kk_of_pk h3]; exact hA) (by have := congrArg List.length h3; simp at this; omega))
  by_cases hE : E = 0
  · subst hE
    obtain ⟨hadm, h2len⟩ := ans_len hA
    have h3len := adm_len hadm
    rw [List.length_map] at h2len h3len
    obtain ⟨f, hf⟩ : ∃ f : Nat, fr % (ps.length : Int) = f := ⟨(fr % (ps.length : Int)).toNat, by rw [Int.toNat_of_nonneg (Int.emod_nonneg _ (by omega))]⟩
    have hfl : f < ps.length := by have := Int.emod_lt_of_pos fr (show (0 : Int) < (ps.length : Int) by omega); omega
    obtain ⟨j, m, F, hB⟩ := ans_ex ((rotP ps f).map kk)
    have hT := turned (ks := ps.map kk) (rs := (rotP ps f).map kk) (f := f) (by rw [List.length_map]; exact hfl) (by rw [List.length_map, List.length_map, rotP_len]) (fun k hk => by
      rw [List.length_map] at hk ⊢
      rw [List.getElem?_map, List.getElem?_map, rotP_get ps f k hk])
    obtain ⟨hF0, hmn, k', j', x, y, hk', hj', hx, hy, hxy, hall⟩ := ans_turned (by rw [List.length_map, List.length_map, rotP_len]) hT.1 (hT.2 (fun a b => a.1 ≠ b.1) ((adm_iff _).1 hadm).1) hA rfl hB
    have CO := hide (fun W (hW : Below w.heap.size w W) => others_any v ps (rotP ps f) f W (hv.next hW) (hL.next hW) hF (by omega) (rotP_len ps f) (rotP_get ps f))
    have CF := hide (fun v1 qs W h1 h2 (h3 : qs.map pk = (rotP ps f).map pk) => elect_any v1 qs W j m F h1 h2 (by rw [kk_of_pk h3]; exact hB) (by have := congrArg List.length h3; simp [rotP_len] at this; omega))
    have CP := pick_any fr ps.length
    obtain ⟨p, hp, hpx⟩ := get_map hx
    obtain ⟨q, hq, hqy⟩ := get_map hy
    have hk'l := (List.getElem?_eq_some_iff.1 hp).1
    have hj'l := (List.getElem?_eq_some_iff.1 hq).1
    rw [rotP_len] at hj'l
    rw [rotP_get ps f j' hj'l] at hq
    obtain ⟨m', hm'⟩ : ∃ m', (j' + f) % ps.length = m' := ⟨_, rfl⟩
    have hm'l : m' < ps.length := by rw [← hm']; exact Nat.mod_lt _ (by omega)
    have hrem : ((j' : Int) + (f : Int)).tmod (ps.length : Int) = (m' : Int) := by rw [← hm']; exact (Int.ofNat_tmod (j' + f) ps.length).symm
    rw [hm'] at hq
    have hid : p.id = q.id := by
      have e1 : x.1 = p.id := by rw [← hpx]; rfl
      have e2 : y.1 = q.id := by rw [← hqy]; rfl
      rw [← e1, ← e2]; exact hxy
    have HALL : Hid (∀ t ∈ ps, lastZ t.ts ≤ lastZ p.ts ∧ t.ep < n ∧ zEpoch (lastZ t.ts) < n) := hide (fun t ht => by
      have := hall (kk t) (List.mem_map.2 ⟨t, ht, rfl⟩)
      rw [← hpx] at this
      exact this)
    rw [hf] at CP
    subst hk' hj' hF0 hmn
    have HV := hide hv
    have HL := hide hL
    have HP := hide hp
    have HQ := hide hq
    have HID := hide hid
    obtain ⟨va, vc, rfl⟩ := seq_slice hv
    have hkl : (k' : Int) < (ps.length : Int) := by omega
    have hjl : (j' : Int) < (ps.length : Int) := by omega
    have hml : (m' : Int) < (ps.length : Int) := by omega
    have hsum : (j' : Int) + (f : Int) ≤ 9223372036854775807 := by omega
    have hn0 : ¬ ((ps.length : Int) = 0) := by omega
    have HREM := hide hrem
    have hkd : decide (ps.length ≤ k') = false := by simp; omega
    have hkz : decide ((k' : Int) < 0) = false := by simp
    clear hv hL hF hA hB hT hadm hx hy hxy hall hpx hqy hf hp hq hid hm' hrem hlen
    go_enter Try.func6, Try.ntmps6
    go_wp2_with fail
    refine C1.mono ?_
    rintro e w1 ⟨v1, qs, rfl, o1, p1, h1, hb1⟩
    obtain ⟨a1, c1, rfl, _⟩ := o1.slice
    have C2 := unhide CE _ qs w1 o1.seq p1.logs h1
    have HB1 := hide hb1
    clear o1 p1 h1 hb1 C1 CE
    go_wp2_with fail
    refine C2.mono ?_
    rintro e w2 ⟨rfl, hb2⟩
    have HB2 := hide (nnext (unhide HB1) hb2)
    clear hb2 C2
    go_wp2_with fail
    refine (elects_any _).mono ?_
    rintro e w3 ⟨rfl, hb3⟩
    have HB3 := hide (nnext (unhide HB2) hb3)
    clear hb3 HB1 HB2
    go_wp2_with fail
    go_loopg [8] ps.length (fun kx s8 wr => ∃ i : Nat, s8 = .int .i64 i ∧ i ≤ ps.length ∧ ps.length - i ≤ kx ∧ Hid (Below w.heap.size w wr))
    case atStart => exact ⟨0, rfl, Nat.zero_le _, Nat.le_refl _, HB3⟩
    case round =>
      obtain ⟨i, rfl, hi, hg, hB⟩ := hrel
      by_cases hlt : i < ps.length
      · obtain ⟨t, ht⟩ : ∃ t, ps[i]? = some t := ⟨_, List.getElem?_eq_getElem hlt⟩
        obtain ⟨b, off, cap, he, hb, r, _, hcap, _⟩ := row_of ((unhide HV).next (unhide hB)) ht
        simp only [Value.slice.injEq] at he
        obtain ⟨rfl, _, rfl⟩ := he
        have d1 := r.pe1 ht
        have d2 := r.pe2 ht
        have f2 := r.pe2 (unhide HP)
        have hii : (i : Int) < (ps.length : Int) := by omega
        have hmt := List.mem_of_getElem? ht
        have CT := last_any t.log t.ts wr ((unhide HL t hmt).next (unhide hB))
        have CK := last_any p.log p.ts wr ((unhide HL p (List.mem_of_getElem? (unhide HP))).next (unhide hB))
        obtain ⟨g1, g2, g3⟩ := unhide HALL t hmt
        have g1' : ¬ lastZ t.ts > lastZ p.ts := by omega
        have g2' : ¬ m ≤ t.ep := by omega
        have g3' : ¬ m ≤ zEpoch (lastZ t.ts) := by omega
        simp only [Pe.log] at CT CK
        clear r ht hb hmt g1 g2 g3
        go_wp2_with fail
        refine CT.mono ?_
        rintro e w4 ⟨rfl, rfl⟩
        go_wp2_with fail
        refine CK.mono ?_
        rintro e w5 ⟨rfl, rfl⟩
        go_wp2_with fail
        refine (zepoch_any _ _).mono ?_
        rintro e w6 ⟨rfl, rfl⟩
        go_wp2_with fail
        go_roundg (ps.length - (i + 1))
        case measure => omega
        case rel => exact ⟨i + 1, by simp, by omega, Nat.le_refl _, hB⟩
      · obtain rfl : i = ps.length := by omega
        have hki : ¬ ((ps.length : Int) < (ps.length : Int)) := by omega
        go_wp2_with fail
        refine (CP _ (by omega) (by omega) hr0 hr1).mono ?_
        rintro e w4 ⟨rfl, rfl⟩
        go_wp2_with fail
        refine (unhide CO _ (unhide hB)).mono ?_
        rintro e w5 ⟨v5, qs5, rfl, o5, p5, h5, hb5⟩
        obtain ⟨a5, c5, rfl, _⟩ := o5.slice
        have C6 := unhide CF _ qs5 w5 o5.seq p5.logs h5
        have HB5 := hide (nnext (unhide hB) hb5)
        clear o5 p5 h5 hb5 CO CF
        go_wp2_with fail
        refine C6.mono ?_
        rintro e w6 ⟨rfl, hb6⟩
        have HB6 := hide (nnext (unhide HB5) hb6)
        clear hb6 C6
        obtain ⟨b, off, cap, he, hb, r, _, hcap, _⟩ := row_of ((unhide HV).next (unhide HB6)) (unhide HP)
        simp only [Value.slice.injEq] at he
        obtain ⟨rfl, _, rfl⟩ := he
        have f0 := r.pe0 (unhide HP)
        have f1 := r.pe0 (unhide HQ)
        rw [unhide HID] at f0
        have hrem := unhide HREM
        clear r hb HALL HL HP HQ
        go_wp2_with fail
        go_quiet (fail)
        go_wp2_with fail
        go_ret
        exact ⟨rfl, belowN (unhide HB6)⟩
  · obtain ⟨rfl, rfl⟩ := ans_no hA hE
    obtain ⟨va, vc, rfl⟩ := seq_slice hv
    clear hv hL hF hA
    go_enter Try.func6, Try.ntmps6
    go_wp2_with fail
    refine C1.mono ?_
    rintro e w1 ⟨v1, qs, rfl, o1, p1, h1, hb1⟩
    obtain ⟨a1, c1, rfl, _⟩ := o1.slice
    have C2 := unhide CE _ qs w1 o1.seq p1.logs h1
    have HB1 := hide hb1
    clear o1 p1 h1 hb1 C1 CE
    go_wp2_with fail
    refine C2.mono ?_
    rintro e w2 ⟨rfl, hb2⟩
    have HB2 := hide (nnext (unhide HB1) hb2)
    clear hb2 C2
    go_wp2_with fail
    refine (elects_any _).mono ?_
    rintro e w3 ⟨rfl, hb3⟩
    have HB3 := hide (nnext (unhide HB2) hb3)
    clear hb3
    go_wp2_with fail
    go_ret
    exact ⟨rfl, unhide HB3⟩
end Go.Proofs.Ytijpnmponjjejaa

namespace Go.Proofs.Ytijpnmponjjejaa
open Go.ChangeShapes Go.WideShapes Go.ChangeAt Go.RowKit Go.ChangeMaps

theorem zcellsStr : Try.prog.cellsOf 9 = 1 := by kernel_rfl
theorem zcellsInt : Try.prog.cellsOf 3 = 1 := by kernel_rfl
theorem zcellsTxn : Try.prog.cellsOf 47 = 7 := by kernel_rfl
theorem zcellsPeer : Try.prog.cellsOf 29 = 4 := by kernel_rfl
theorem zcellsLog : Try.prog.cellsOf 27 = 1 := by kernel_rfl
theorem zbytesTxn : Try.prog.bytesOf 47 = 72 := by kernel_rfl
theorem zbytesPeer : Try.prog.bytesOf 29 = 48 := by kernel_rfl
theorem zlaidOut : laidOutB Try.prog = true := by kernel_rfl
theorem zlist_of (s : ByteArray) : ∃ l : List UInt8, s = ⟨l.toArray⟩ := ⟨s.data.toList, rfl⟩

section
variable {H : Type} {enc : TypeId × Value → H} {W : World} {base : Nat} {spare : Nat → Bool} {held : Bool}
set_option maxRecDepth 10000 in
theorem zopen_txn {n : Nat} {cs : List Value} {x : DataW H × List MemPlace} (hl : cs.length = 7) (h : DataW.trod enc Try.prog W base spare held n 47 cs = some x) : ∃ t : WTxn, cs = tcells t ∧ t.z ≤ 9223372036854775807 := by
  match cs, hl with
  | [c0, c1, c2, c3, c4, c5, c6], _ =>
    obtain ⟨xs, n, _, hx, _, hlen, hfs⟩ := DataW.trod_struct Try.underlying47 h
    match xs, hlen with
    | [y0, y1, y2, y3, y4, y5, y6], _ =>
      obtain ⟨z, e0, rfl, w0⟩ := DataW.trod_int Try.underlying3 (show DataW.trod enc Try.prog W base spare held n 3 [c0] = some y0 by simpa [zcellsInt] using hfs 0 _ rfl)
      obtain ⟨o, e1, rfl, _⟩ := DataW.trod_int Try.underlying3 (show DataW.trod enc Try.prog W base spare held n 3 [c1] = some y1 by simpa [zcellsInt] using hfs 1 _ rfl)
      obtain ⟨s, e2, rfl, _⟩ := DataW.trod_int Try.underlying3 (show DataW.trod enc Try.prog W base spare held n 3 [c2] = some y2 by simpa [zcellsInt] using hfs 2 _ rfl)
      obtain ⟨p', e3, rfl, _⟩ := DataW.trod_string Try.underlying9 (show DataW.trod enc Try.prog W base spare held n 9 [c3] = some y3 by simpa [zcellsStr] using hfs 3 _ rfl)
      obtain ⟨d', e4, rfl, _⟩ := DataW.trod_string Try.underlying9 (show DataW.trod enc Try.prog W base spare held n 9 [c4] = some y4 by simpa [zcellsStr] using hfs 4 _ rfl)
      obtain ⟨v', e5, rfl, _⟩ := DataW.trod_int Try.underlying3 (show DataW.trod enc Try.prog W base spare held n 3 [c5] = some y5 by simpa [zcellsInt] using hfs 5 _ rfl)
      obtain ⟨u', e6, rfl, _⟩ := DataW.trod_int Try.underlying3 (show DataW.trod enc Try.prog W base spare held n 3 [c6] = some y6 by simpa [zcellsInt] using hfs 6 _ rfl)
      simp only [List.cons.injEq, and_true] at e0 e1 e2 e3 e4 e5 e6
      subst e0 e1 e2 e3 e4 e5 e6
      obtain ⟨pl, rfl⟩ := zlist_of p'
      obtain ⟨dl, rfl⟩ := zlist_of d'
      exact ⟨⟨z, o, s, pl, dl, v', u'⟩, rfl, (bounds_i64 w0).2⟩
theorem zweightsAll_mem {e : TypeId} : ∀ (l : List (DataW H)) (d : DataW H) (x : Nat), d ∈ l → x ∈ DataW.weights Try.prog e d → x ∈ DataW.weightsAll Try.prog e l
  | d' :: r, d, x, h, hx => by
    rw [DataW.weightsAll]
    rcases List.mem_cons.1 h with rfl | h
    · exact List.mem_append.2 (.inl hx)
    · exact List.mem_append.2 (.inr (zweightsAll_mem r d x h hx))
set_option maxRecDepth 10000 in
/-- a slice of elements that are laid in a row, and what is known of each -/
theorem open_seqP {α : Type} [Lay α] (al : α) {T E : TypeId} (hU : Try.prog.underlying T = some (.slice E)) (hk : Try.prog.cellsOf E = Lay.k α) (hk0 : 0 < Lay.k α) {bytes : Nat} (hby : Try.prog.bytesOf E = bytes) (P : α → Prop) (Q : Nat → α → Prop)
    (ho : ∀ {n : Nat} {cs : List Value} {x : DataW H × List MemPlace}, cs.length = Lay.k α → DataW.trod enc Try.prog W base spare held n E cs = some x → ∃ f : α, cs = Lay.cs f ∧ P f ∧ ∀ M, (∀ y ∈ DataW.weights Try.prog E x.1, y ≤ M) → Q M f)
    {fuel : Nat} {v : Value} {y : DataW H × List MemPlace} (h : DataW.trod enc Try.prog W base spare held fuel T [v] = some y) :
    ∃ xs : List α, SeqV W v xs ∧ (∀ x ∈ xs, P x) ∧ ∀ M, (∀ x ∈ DataW.weights Try.prog T y.1, x ≤ M) → xs.length * bytes ≤ M ∧ ∀ x ∈ xs, Q M x := by
  rcases Go.Deep.open_slice hU h with ⟨h1, hx⟩ | ⟨a, len, cap, m, k, D, Pl, h1, hb, hl, hm, hmm, hx, hel⟩
  · simp only [List.cons.injEq, and_true] at h1
    rw [h1]
    exact ⟨[], SeqV.nil W, by simp, fun M _ => ⟨by simp, by simp⟩⟩
  · simp only [List.cons.injEq, and_true] at h1
    rw [h1]
    subst hx
    have hlm : len ≤ m := by rw [hmm]; split <;> omega
    have each : ∀ i, i < len → ∃ f : α, (∀ c, c < Lay.k α → W.cell? (a.add (i * Lay.k α + c)) = (Lay.cs f)[c]?) ∧ P f ∧ ∀ M, (∀ y ∈ DataW.weights Try.prog E (D i), y ≤ M) → Q M f := by
      intro i hi
      obtain ⟨cs', g1, g2⟩ := hel i (by omega)
      rw [hk] at g1
      obtain ⟨_, hlen, hcell⟩ := World.cells?_some g1
      obtain ⟨f, rfl, hp, hq⟩ := ho hlen g2
      refine ⟨f, fun c hc => ?_, hp, hq⟩
      have := hcell c hc
      rwa [Go.Deep.add_add] at this
    have : Inhabited α := ⟨al⟩
    obtain ⟨F, hF⟩ := Go.Deep.choose_lt each
    refine ⟨(List.range len).map F, ?_, ?_, ?_⟩
    · by_cases h0 : len = 0
      · subst h0
        exact .inl ⟨some a, cap, rfl, rfl, hm⟩
      · have c0 := (hF 0 (by omega)).1 0 hk0
        obtain ⟨y, hy⟩ : ∃ y, (Lay.cs (F 0))[0]? = some y := ⟨_, List.getElem?_eq_getElem (by rw [Lay.len]; exact hk0)⟩
        rw [hy] at c0
        obtain ⟨b, off, sp⟩ := a
        have hsp : sp = none := by
          cases sp with
          | none => rfl
          | some s => simp [World.cell?, Addr.add] at c0; split at c0 <;> simp at c0
        subst hsp
        have hblt : b < W.heap.size := World.block_lt_of_cell? W _ (show W.cell? ((⟨b, off, none⟩ : Addr).add (0 * Lay.k α + 0)) = some _ from c0) |> fun h => by simpa [Addr.add] using h
        refine .inr ⟨b, off, cap, by simp, by simpa using hl, hm, hblt, by simp; omega, fun j u hj => ?_⟩
        have hjl : j < len * Lay.k α := by
          have := (List.getElem?_eq_some_iff.1 hj).1
          rw [cellsL_length, List.length_map, List.length_range] at this
          exact this
        have hi : j / Lay.k α < len := Nat.div_lt_of_lt_mul (by rw [Nat.mul_comm]; exact hjl)
        have hm' : j % Lay.k α < Lay.k α := Nat.mod_lt _ hk0
        have hdm : j / Lay.k α * Lay.k α + j % Lay.k α = j := by rw [Nat.mul_comm]; exact Nat.div_add_mod j _
        have hg := cellsL_get ((List.range len).map F) (j / Lay.k α) (F (j / Lay.k α)) (by rw [List.getElem?_map, List.getElem?_range hi]; rfl) (j % Lay.k α) hm'
        rw [hdm, hj] at hg
        have := (hF (j / Lay.k α) hi).1 (j % Lay.k α) hm'
        rw [hdm, Addr.add_lit, ← hg] at this
        exact this
    · intro x hx
      obtain ⟨i, hi, rfl⟩ := List.mem_map.1 hx
      exact (hF i (by simpa using hi)).2.1
    · intro M hM
      have hw' : DataW.weights Try.prog T (.slice ((List.range len).map D) ((List.range (m - len)).map fun j => D (len + j)) : DataW H) =
          (len + (m - len)) * bytes :: (DataW.weightsAll Try.prog E ((List.range len).map D) ++ DataW.weightsAll Try.prog E ((List.range (m - len)).map fun j => D (len + j))) := by
        simp [DataW.weights, hU, hby]
      rw [hw'] at hM
      refine ⟨?_, fun f hf => ?_⟩
      · have := hM _ (List.mem_cons_self ..)
        simp only [List.length_map, List.length_range]
        exact Nat.le_trans (Nat.mul_le_mul_right _ (by omega)) this
      · obtain ⟨i, hi, rfl⟩ := List.mem_map.1 hf
        have hi' : i < len := by simpa using hi
        exact (hF i hi').2.2 M fun x hx => hM x (List.mem_cons_of_mem _ (List.mem_append.2 (.inl (zweightsAll_mem _ (D i) x (List.mem_map.2 ⟨i, hi, rfl⟩) hx))))

/-- a log's value holds these; what is known of them -/
structure ZLog (W : World) (v : Value) (ts : List WTxn) : Prop where
  log : LogV W v ts
  z : ∀ t ∈ ts, t.z ≤ 9223372036854775807
theorem zopen_log {fuel : Nat} {v : Value} {y : DataW H × List MemPlace} (h : DataW.trod enc Try.prog W base spare held fuel 27 [v] = some y) :
    ∃ (a : Option Addr) (c : Nat) (ts : List WTxn), v = .slice a ts.length c ∧ ZLog W v ts ∧ ∀ M, (∀ x ∈ DataW.weights Try.prog 27 y.1, x ≤ M) → ts.length * 72 ≤ M := by
  obtain ⟨ts, h1, h2, h3⟩ := open_seqP (⟨0, 0, 0, [], [], 0, 0⟩ : WTxn) Try.underlying27 zcellsTxn (by decide) zbytesTxn (fun t => t.z ≤ 9223372036854775807) (fun _ _ => True) (fun hl h => by obtain ⟨t, e, hz⟩ := zopen_txn hl h; exact ⟨t, e, hz, fun _ _ => trivial⟩) h
  obtain ⟨a, c, e⟩ := log_slice (seq_log.1 h1)
  exact ⟨a, c, ts, e, ⟨seq_log.1 h1, h2⟩, fun M hM => (h3 M hM).1⟩
set_option maxRecDepth 10000 in
theorem zopen_pe {n : Nat} {cs : List Value} {x : DataW H × List MemPlace} (hl : cs.length = 4) (h : DataW.trod enc Try.prog W base spare held n 29 cs = some x) :
    ∃ p : Pe, cs = pcells p ∧ ZLog W p.log p.ts ∧ ∀ M, (∀ y ∈ DataW.weights Try.prog 29 x.1, y ≤ M) → p.ts.length * 72 ≤ M := by
  match cs, hl with
  | [c0, c1, c2, c3], _ =>
    obtain ⟨xs, n, _, hx, _, hlen, hfs⟩ := DataW.trod_struct Try.underlying29 h
    match xs, hlen with
    | [y0, y1, y2, y3], _ =>
      obtain ⟨i, e0, rfl, _⟩ := DataW.trod_int Try.underlying3 (show DataW.trod enc Try.prog W base spare held n 3 [c0] = some y0 by simpa [zcellsInt] using hfs 0 _ rfl)
      obtain ⟨ep, e1, rfl, _⟩ := DataW.trod_int Try.underlying3 (show DataW.trod enc Try.prog W base spare held n 3 [c1] = some y1 by simpa [zcellsInt] using hfs 1 _ rfl)
      obtain ⟨a, c, ts, e2, hL, hM⟩ := zopen_log (show DataW.trod enc Try.prog W base spare held n 27 [c2] = some y2 by simpa [zcellsInt, zcellsLog] using hfs 2 _ rfl)
      obtain ⟨dn, e3, rfl, _⟩ := DataW.trod_int Try.underlying3 (show DataW.trod enc Try.prog W base spare held n 3 [c3] = some y3 by simpa [zcellsInt, zcellsLog] using hfs 3 _ rfl)
      simp only [List.cons.injEq, and_true] at e0 e1 e3
      subst e0 e1 e2 e3 hx
      refine ⟨⟨i, ep, a, c, ts, dn⟩, rfl, hL, fun M hW => hM M fun q hq => hW q ?_⟩
      simp [DataW.weights, Try.underlying29, DataW.weightsEach, hq]
theorem open_peers {r : Reach} {b0 : Nat} {v : Value} {d : DataW H} {p : List MemPlace} (hv : Value.okWide Try.prog W r b0 22 v) (h : DataW.Trod enc Try.prog W base spare held 22 v d p) :
    ∃ ps : List Pe, SeqV W v ps ∧ (∀ x ∈ ps, ZLog W x.log x.ts) ∧ ∀ M, (∀ y ∈ DataW.weights Try.prog 22 d, y ≤ M) → ps.length * 48 ≤ M ∧ ∀ x ∈ ps, x.ts.length * 72 ≤ M := by
  obtain ⟨fuel, hf⟩ := h
  obtain ⟨sa, sl, sc, rfl⟩ := okWide_slice Try.underlying22 hv
  exact open_seqP pe0 Try.underlying22 zcellsPeer (by decide) zbytesPeer (fun x => ZLog W x.log x.ts) (fun M x => x.ts.length * 72 ≤ M) zopen_pe (show DataW.trod enc Try.prog W base spare held fuel 22 [.slice sa sl sc] = some (d, p) by simpa [Value.cells] using hf)
theorem zsized {ts : List TypeId} {ds : List (DataW H)} (h : (DataW.weightsEach Try.prog ts ds).all (· ≤ reachBytes) = true) {j : Nat} {T : TypeId} {d : DataW H} (ht : ts[j]? = some T) (hd : ds[j]? = some d) : ∀ x ∈ DataW.weights Try.prog T d, x ≤ 140737488351232 := by
  intro x hx
  have e : reachBytes = 140737488351232 := by decide
  have h1 := List.all_eq_true.1 h _ (DataW.weights_mem_each ht hd x hx)
  rw [e] at h1
  simpa using h1
end
end Go.Proofs.Ytijpnmponjjejaa
