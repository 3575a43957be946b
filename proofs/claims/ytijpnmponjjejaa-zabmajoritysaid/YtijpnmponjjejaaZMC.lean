/-
  zab.Committed: the walk.
  aviarylaw.peers: the walk.
  The law ZabCommits: the walk.
  The law ZabMajority: the walk.
  A peer, lists of peers and lists of logs, as arguments: opened; what their weights say of their lengths.
-/
import Derived.Test.YtijpnmponjjejaaZMB
import Derived.Test.YtijpnmponjjejaaZMA
import Derived.Deep.RegionHeld3
import Derived.Deep.CutRange
import Derived.Deep.Cut
import Derived.Test.YtijpnmponjjejaaRows
import Derived.ProofKit
import Derived.OpenShut
import Derived.SizedLaws
import Derived.Deep.Slices
import Derived.Carry
namespace Go.Proofs.Ytijpnmponjjejaa
open Go.RowKit
set_option maxRecDepth 10000 in

theorem lacks_any (x : Int) (w : World) : Calls Try.prog 36 #[.int .i64 x] w fun e w' => e = .returned (.bool (decide (x < 2))) ∧ w' = w := by
  go_enter Try.func36, Try.ntmps36
  go_wp2_with fail
  refine (quorum_any _).mono ?_
  rintro e w1 ⟨rfl, rfl⟩
  go_wp2_with fail
  go_ret
  exact ⟨rfl, rfl⟩
set_option maxRecDepth 10000 in
set_option maxHeartbeats 1000000 in
theorem idxI_any (v : Value) (xs : List Int) (n : Nat) (w : World) (hv : SeqV w v xs) (hn : n ≤ xs.length) (h1 : ∀ i x, i < n → xs[i]? = some x → 2 ≤ x) (h2 : ∀ x, xs[n]? = some x → x < 2) (hl : xs.length ≤ 140737488355328) :
    Calls Try.prog 35 #[v, .func (.func 36) #[] #[]] w fun e w' => e = .returned (.int .i64 (if n < xs.length then (n : Int) else -1)) ∧ Below w.heap.size w w' := by
  have HV := hide hv
  have H1 := hide h1
  have H2 := hide h2
  obtain ⟨va, vc, rfl⟩ := seq_slice hv
  clear hv h1 h2
  obtain ⟨R, hR⟩ : ∃ R : Int, (if n < xs.length then (n : Int) else -1) = R := ⟨_, rfl⟩
  have HR := hide hR
  rw [hR]
  clear hR
  go_enter Try.func35, Try.ntmps35
  go_wp2_with fail
  go_loopg [8] xs.length (fun kx s8 wr => ∃ k : Nat, s8 = .int .i64 k ∧ k ≤ n ∧ xs.length - k ≤ kx ∧ Hid (Below w.heap.size w wr))
  case atStart => exact ⟨0, rfl, Nat.zero_le _, Nat.le_refl _, hide (Below.refl _ _)⟩
  case round =>
    obtain ⟨k, rfl, hk, hg, hB⟩ := hrel
    by_cases hlt : k < xs.length
    · obtain ⟨y, hy⟩ : ∃ y, xs[k]? = some y := ⟨_, List.getElem?_eq_getElem hlt⟩
      obtain ⟨b, off, cap, he, hb, q, _⟩ := row_of ((unhide HV).next (unhide hB)) hy
      simp only [Value.slice.injEq] at he
      obtain ⟨rfl, _, rfl⟩ := he
      have d0 := q.i0 hy
      have hkk : (k : Int) < (xs.length : Int) := by omega
      by_cases hkn : k < n
      · have h2y : ¬ y < 2 := by have := unhide H1 k y hkn hy; omega
        clear q hy hb
        go_wp2_with fail
        refine (lacks_any _ _).mono ?_
        rintro e w1 ⟨rfl, rfl⟩
        go_wp2_with fail
        go_roundg (xs.length - (k + 1))
        case measure => omega
        case rel => exact ⟨k + 1, rfl, by omega, Nat.le_refl _, hB⟩
      · obtain rfl : k = n := by omega
        have h2y : y < 2 := unhide H2 y hy
        have hRk : R = k := by rw [← unhide HR, if_pos hlt]
        have HRk := hide hRk
        clear q hy hb hRk
        go_wp2_with fail
        refine (lacks_any _ _).mono ?_
        rintro e w1 ⟨rfl, rfl⟩
        go_wp2_with fail
        go_ret
        rw [unhide HRk]
        exact ⟨rfl, unhide hB⟩
    · have hki : ¬ ((k : Int) < (xs.length : Int)) := by omega
      have hRk : R = -1 := by rw [← unhide HR, if_neg (by omega)]
      have HRk := hide hRk
      clear hRk
      go_wp2_with fail
      go_ret
      rw [unhide HRk]
      exact ⟨rfl, unhide hB⟩
set_option maxRecDepth 10000 in
set_option maxHeartbeats 1000000 in
theorem holders_none (a : Option Addr) (c : Nat) (w : World) : Calls Try.prog 34 #[.slice a 0 c] w fun e w' => e = .returned (.slice none 0 0) ∧ w' = w := by
  go_enter Try.func34, Try.ntmps34
  go_wp2_with fail
  go_ret
  exact ⟨rfl, rfl⟩
set_option maxRecDepth 10000 in
set_option maxHeartbeats 1000000 in
theorem committed_none (a : Option Addr) (c : Nat) (w : World) : Calls Try.prog 15 #[.slice a 0 c] w fun e w' => e = .returned (.int .i64 0) ∧ Below w.heap.size w w' := by
  have C := idxI_any (.slice none 0 0) [] 0 w (SeqV.nil w) (Nat.le_refl _) (fun i x h => by omega) (fun x h => by simp at h) (by decide)
  go_enter Try.func15, Try.ntmps15
  go_wp2_with fail
  refine (holders_none _ _ _).mono ?_
  rintro e w1 ⟨rfl, rfl⟩
  go_wp2_with fail
  refine C.mono ?_
  rintro e w2 ⟨rfl, hb2⟩
  have HB := hide hb2
  clear hb2
  go_wp2_with fail
  go_ret
  exact ⟨rfl, unhide HB⟩
theorem rown_seq {W : World} {g cap : Nat} {xs : List Int} (h : OwnR W g cap xs) : SeqV W (.slice (some ⟨g, 0, none⟩) xs.length cap) xs := by
  have k : OwnS W 0 (.slice (some ⟨g, 0, none⟩) xs.length cap) xs := Or.inr ⟨g, cap, rfl, Nat.zero_le _, h⟩
  exact k.seq
theorem com_idx {tss : List (List WTxn)} {l : List WTxn} {n : Nat} (hC : Com tss l n) (hl : l.length * 72 ≤ 140737488351232) (W : World) (g : Nat) (h : OwnR W g l.length (cnts tss l)) :
    Calls Try.prog 35 #[.slice (some ⟨g, 0, none⟩) l.length l.length, .func (.func 36) #[] #[]] W fun e w' => e = .returned (.int .i64 (if n < l.length then (n : Int) else -1)) ∧ Below W.heap.size W w' := by
  have k := rown_seq h
  have := idxI_any _ (cnts tss l) n W k (by rw [cnts_len]; exact hC.le)
    (fun i x hi hx => by
      obtain ⟨t, ht⟩ : ∃ t, l[i]? = some t := ⟨_, List.getElem?_eq_getElem (by have := hC.le; omega)⟩
      rw [cnts_get _ ht] at hx
      cases hx
      have := hC.two i t hi ht
      omega)
    (fun x hx => by
      by_cases hn : n < l.length
      · obtain ⟨t, ht⟩ : ∃ t, l[n]? = some t := ⟨_, List.getElem?_eq_getElem hn⟩
        rw [cnts_get _ ht] at hx
        cases hx
        have := hC.stop t ht
        omega
      · rw [List.getElem?_eq_none (by rw [cnts_len]; omega)] at hx
        cases hx) (by rw [cnts_len]; omega)
  rw [cnts_len] at this
  exact this
set_option maxRecDepth 10000 in
set_option maxHeartbeats 1000000 in
theorem committed_some (v : Value) (l0 : Lg) (r : List Lg) (n : Nat) (w : World) (hv : SeqV w v (l0 :: r)) (hL : GLogs w (l0 :: r)) (hF : GFit (l0 :: r)) (hC : Com ((l0 :: r).map (·.ts)) l0.ts n) :
    Calls Try.prog 15 #[v] w fun e w' => e = .returned (.int .i64 n) ∧ Below w.heap.size w w' := by
  obtain ⟨b, off, cap, rfl, _⟩ := seq_row hv (by simp)
  have C1 := holders_some b off cap l0 r w hv hL hF
  have hl : l0.ts.length * 72 ≤ 140737488351232 := hF.each l0 (by simp)
  have HI := hide (com_idx hC hl)
  have hle := hC.le
  clear hv hL hF hC
  generalize (l0 :: r).length = L at *
  generalize cnts ((l0 :: r).map (·.ts)) l0.ts = X at *
  go_enter Try.func15, Try.ntmps15
  go_wp2_with fail
  refine C1.mono ?_
  rintro e w1 ⟨g, rfl, ho, _, hb1⟩
  have C2 := unhide HI w1 g ho
  have HB1 := hide hb1
  clear ho hb1 C1 HI
  go_wp2_with fail
  refine C2.mono ?_
  rintro e w2 ⟨rfl, hb2⟩
  have HB2 := hide (nnext (unhide HB1) hb2)
  clear hb2 C2
  by_cases hn : n < l0.ts.length
  · simp only [hn, if_true]
    go_wp2_with fail
    go_ret
    exact ⟨rfl, unhide HB2⟩
  · obtain rfl : n = l0.ts.length := by omega
    simp only [hn, if_false]
    go_wp2_with fail
    go_ret
    exact ⟨rfl, unhide HB2⟩
end Go.Proofs.Ytijpnmponjjejaa

namespace Go.Proofs.Ytijpnmponjjejaa
open Go.RowKit
theorem OwnS.above {α : Type} [Lay α] {W : World} {B : Nat} {v : Value} {xs : List α} (h : OwnS W B v xs) (k : Nat) (hk : v.ownBlock = some k) : B ≤ k := by
  rcases h with ⟨rfl, rfl⟩ | ⟨g, cap, rfl, hB, _⟩
  · simp [Value.ownBlock] at hk
  · simp only [Value.ownBlock, Option.some.injEq] at hk
    rw [← hk]; exact hB
theorem PBox.other {W V : World} {g B : Nat} {p : Pe} {v : Value} {α : Type} [Lay α] {xs : List α} (h : PBox W g p) (a : Nat) (u : Value) (hne : Lay.ty α ≠ 29) (k : OwnS W B v xs) (hV : V = W.setCell ⟨g, a, none⟩ u) : OwnS V B v xs := by
  subst hV
  refine k.other (fun e => ?_) u
  rcases k with ⟨rfl, rfl⟩ | ⟨g', cap, rfl, _, rest, h1, _⟩
  · simp [Value.ownBlock] at e
  · simp only [Value.ownBlock, Option.some.injEq] at e
    subst e
    unfold PBox at h
    rw [h] at h1
    simp at h1
    exact hne h1.2.symm
end Go.Proofs.Ytijpnmponjjejaa

namespace Go.Proofs.Ytijpnmponjjejaa
open Go.RowKit

def ComL (tss : List (List WTxn)) (n : Nat) : Prop := match tss with | [] => n = 0 | l :: r => Com (l :: r) l n
theorem comL_ex (tss : List (List WTxn)) : ∃ n, ComL tss n := by
  match tss with
  | [] => exact ⟨0, rfl⟩
  | l :: r => exact com_ex (l :: r) l
theorem committed_any (v : Value) (ls : List Lg) (n : Nat) (w : World) (hv : SeqV w v ls) (hL : GLogs w ls) (hF : GFit ls) (hC : ComL (ls.map (·.ts)) n) :
    Calls Try.prog 15 #[v] w fun e w' => e = .returned (.int .i64 n) ∧ Below w.heap.size w w' := by
  match ls, hv, hL, hF, hC with
  | [], hv, _, _, hC =>
    obtain ⟨a, c, rfl⟩ := seq_slice hv
    obtain rfl : n = 0 := hC
    exact committed_none a c w
  | l0 :: r, hv, hL, hF, hC => exact committed_some v l0 r n w hv hL hF hC
theorem lone (W : World) (l : Lg) : OneR (W.alloc (.cells #[.slice l.a l.ts.length l.c] 27)) W.heap.size l := heap_alloc_new W _
theorem take_ts {ls : List Lg} {k : Nat} {p : Lg} (h : ls[k]? = some p) : (ls.take (k + 1)).map (·.ts) = (ls.take k).map (·.ts) ++ [p.ts] := by
  obtain ⟨hk, rfl⟩ := List.getElem?_eq_some_iff.1 h
  rw [List.take_succ_eq_append_getElem hk, List.map_append]; rfl
theorem gfit_of {ls qs : List Lg} (h : qs.map (·.ts) = ls.map (·.ts)) (hF : GFit ls) : GFit qs := by
  refine ⟨by have := congrArg List.length h; simp at this; rw [this]; exact hF.len, fun p hp => ?_⟩
  have : p.ts ∈ ls.map (·.ts) := by rw [← h]; exact List.mem_map.2 ⟨p, hp, rfl⟩
  obtain ⟨q, hq, e⟩ := List.mem_map.1 this
  rw [← e]; exact hF.each q hq
end Go.Proofs.Ytijpnmponjjejaa

namespace Go.Proofs.Ytijpnmponjjejaa
open Go.RowKit

theorem atB_self {l : List WTxn} {i : Nat} {t : WTxn} (h : l[i]? = some t) : atB l i t = true := by rw [atB_at h]; exact eqX_iff.2 rfl
/-- with the first log once more behind them all of it is committed -/
theorem com_more (l : List WTxn) (r : List (List WTxn)) : ComL ((l :: r) ++ [l]) l.length := by
  refine ⟨Nat.le_refl _, fun i t hi ht => ?_, fun t ht => by simp at ht⟩
  have h := cntN_snoc (l :: r) l i t
  rw [atB_self ht] at h
  have h1 : 1 ≤ cntN (l :: r) i t := by
    have := atB_self ht
    simp [cntN, this]
  simp only [if_true] at h
  show 2 ≤ cntN ((l :: r) ++ [l]) i t
  omega
theorem comL_some {ls : List Lg} {l0 : Lg} {n : Nat} (h : ls[0]? = some l0) (hC : ComL (ls.map (·.ts)) n) : Com (ls.map (·.ts)) l0.ts n := by
  match ls, h, hC with
  | x :: r, h, hC =>
    obtain rfl : x = l0 := by simpa using h
    exact hC
theorem comL_more {ls : List Lg} {l0 : Lg} (h : ls[0]? = some l0) : ComL ((ls.map (·.ts)) ++ [l0.ts]) l0.ts.length := by
  match ls, h with
  | x :: r, h =>
    obtain rfl : x = l0 := by simpa using h
    exact com_more x.ts (r.map (·.ts))
theorem zstep_copyT {w : World} {ops : Array Oper} {o : Oper} {a : Act} {K : Act → World → Prop} {Q : Exit → Act → World → Prop} {E : Prop} (hgd : Region.wanted o (yielded ops a.tmps) = true) (s x : Operand)
    (ho : o.op = .call { callee := .builtin .append, args := #[s, x], argTypes := #[27, 27] })
    (hs : a.eval s = .slice none 0 0) (v : Value) (hx : a.eval x = v) (xs : List WTxn) (hv : SeqV w v xs) (hl : xs.length * 72 ≤ 140737488355328)
    (h : ∀ a' c' w', OwnS w' w.heap.size (.slice a' xs.length c') xs → w.grownBy w' none → K (a.put o.dst (.slice a' xs.length c')) w') :
    if Region.wanted o (yielded ops a.tmps) = true then Oper.wp Try.prog o a w K Q else E := by
  rw [if_pos hgd]
  obtain ⟨v', w', hr, h2, h3⟩ := zrun_copyT w o.type v xs hv hl
  obtain ⟨a', c', rfl, _⟩ := h2.slice
  unfold Oper.wp execOp
  simp only [ho, resolve, invoke, builtin, Sem.run_bind, Sem.run_pure, Result.andThen_ok, List.map_toArray, List.map_cons, List.map_nil, hs, hx, hr]
  exact h a' c' w' h2 h3
theorem zstep_app1 {w : World} {ops : Array Oper} {o : Oper} {a : Act} {K : Act → World → Prop} {Q : Exit → Act → World → Prop} {E : Prop} (hgd : Region.wanted o (yielded ops a.tmps) = true) (s x : Operand)
    (ho : o.op = .call { callee := .builtin .append, args := #[s, x], argTypes := #[35, 35] })
    (B : Nat) (v : Value) (ns : List Lg) (hs : a.eval s = v) (hown : OwnS w B v ns)
    (q : Nat) (hx : a.eval x = .slice (some ⟨q, 0, none⟩) 1 1) (t : Lg) (hnews : OneR w q t) (hl : (ns.length + 1) * 24 ≤ 140737488355328) (hB : B ≤ w.heap.size)
    (h : ∀ a' c' w', OwnS w' B (.slice a' (ns.length + 1) c') (ns ++ [t]) → w.grownBy w' v.ownBlock → K (a.put o.dst (.slice a' (ns.length + 1) c')) w') :
    if Region.wanted o (yielded ops a.tmps) = true then Oper.wp Try.prog o a w K Q else E := by
  rw [if_pos hgd]
  obtain ⟨i0, hi0, hz0, hz1, hz2⟩ := ginfo
  obtain ⟨v', w', hr, h2, h3, _⟩ := run_append_own (P := Try.prog) w B 35 o.type 27 i0 _ 1 24 Try.underlying35 hi0 hz0 hz1 hz2 rfl (by decide) v ns.length (cellsL ns) hown.row ⟨q, 0, none⟩ 1 1 [lgV t] rfl (one_news hnews) (Lay.one t) (by simp only [maxLen]; omega) hl hB
  have h2' : OwnS w' B v' (ns ++ [t]) := OwnS.of_row (by rw [List.length_append, cellsL_snoc]; exact h2)
  obtain ⟨a', c', rfl, _⟩ := h2'.slice
  have hlen : (ns ++ [t]).length = ns.length + 1 := by simp
  rw [hlen] at h2' hr
  unfold Oper.wp execOp
  simp only [ho, resolve, invoke, builtin, Sem.run_bind, Sem.run_pure, Result.andThen_ok, List.map_toArray, List.map_cons, List.map_nil, hs, hx, hr]
  exact h a' c' w' h2' h3

theorem maj_last {W w2 w3 : World} {B C n : Nat} {v : Value} {qs : List Lg} {a2 a3 : Option Addr} {c2 c3 : Nat} {l : List WTxn} {o : Obj} (hQ : OwnS W B v qs) (hG : GOwn W B qs) (hb2 : Below W.heap.size W w2) (ho2 : OwnS w2 C (.slice a2 l.length c2) l)
    (ho3 : OwnS w3 B (.slice a3 (qs.length + 1) c3) (qs ++ [⟨a2, c2, l⟩])) (hg3 : (w2.alloc o).grownBy w3 v.ownBlock) (hF : GFit (qs ++ [⟨a2, c2, l⟩])) (hC : ComL ((qs ++ [(⟨a2, c2, l⟩ : Lg)]).map (·.ts)) n) :
    Calls Try.prog 15 #[.slice a3 (qs.length + 1) c3] w3 fun e w' => e = .returned (.int .i64 n) ∧ Below w3.heap.size w3 w' := by
  have k1 := (hQ.next hb2).next (allocB w2 o)
  refine committed_any _ _ n w3 ho3.seq (fun p hp => ?_) hF hC
  rcases List.mem_append.1 hp with hp | hp
  · exact (GOwn.grown ((hG.next hb2).next (allocB w2 o)) k1 hg3).logs p hp
  · obtain rfl := List.mem_singleton.1 hp
    have k2 := ho2.next (allocB w2 o)
    exact seq_log.1 (k2.grown hg3 (k2.apart k1 (by decide))).seq

set_option maxRecDepth 10000 in
set_option maxHeartbeats 4000000 in
theorem zabMajority_walk (v : Value) (ls : List Lg) (w : World) (hv : SeqV w v ls) (hL : GLogs w ls) (hF : GFit ls) (hn : ls.length * 24 ≤ 140737488351232) :
    Calls Try.prog 8 #[v] w fun e w' => e = .returned (.bool true) ∧ Below w.heap.size w w' := by
  obtain ⟨i0, hi0, hz0, hz1, hz2⟩ := ginfo
  obtain ⟨n, hC⟩ := comL_ex (ls.map (·.ts))
  have HV := hide hv
  have HL := hide hL
  have HF := hide hF
  have HC := hide hC
  obtain ⟨a, c, rfl⟩ := seq_slice hv
  clear hv hL hF hC
  go_enter Try.func8, Try.ntmps8
  go_wp2_with fail
  go_loopg [3, 4] ls.length (fun kx s3 s4 wr => ∃ (k : Nat) (a' : Option Addr) (c' : Nat) (qs : List Lg), s3 = .slice a' k c' ∧ s4 = .int .i64 k ∧ k ≤ ls.length ∧ ls.length - k ≤ kx ∧ Hid (qs.map (·.ts) = (ls.take k).map (·.ts)) ∧ Hid (OwnS wr w.heap.size (.slice a' k c') qs ∧ GOwn wr w.heap.size qs ∧ Below w.heap.size w wr))
  case atStart => exact ⟨0, none, 0, [], rfl, rfl, Nat.zero_le _, by omega, hide rfl, hide ⟨.inl ⟨rfl, rfl⟩, fun p hp => by simp at hp, Below.refl _ _⟩⟩
  case round =>
    obtain ⟨k, a', c', qs, rfl, rfl, hk, hkx, HM, HI⟩ := hrel
    by_cases hlt : k < ls.length
    · obtain ⟨p, hp⟩ : ∃ p, ls[k]? = some p := ⟨_, List.getElem?_eq_getElem hlt⟩
      have hq : qs.length = k := by have := congrArg List.length (unhide HM); simp at this; omega
      subst hq
      obtain ⟨b, off, cap, he, hb, hr, _, _, _⟩ := row_of ((unhide HV).next (unhide HI).2.2) hp
      simp only [Value.slice.injEq, true_and] at he
      obtain ⟨rfl, rfl⟩ := he
      have e0 := hr.lg0 hp
      have hlti : (qs.length : Int) < (ls.length : Int) := by omega
      have hmem := List.mem_of_getElem? hp
      have HLg := hide (seq_log.2 ((unhide HL) p hmem))
      have Hfit := hide ((unhide HF).each p hmem)
      have HT := hide (take_ts hp)
      have hk63 : qs.length < 9223372036854775807 := by omega
      clear hr hp hb hmem
      obtain ⟨la, lc, ts⟩ := p
      simp only [lgV] at *
      go_wp2_with (at_builtin; refine zwpList_copyT rfl _ _ rfl rfl _ rfl ts ?q1 ?q2 ?_)
      case q1 => exact (unhide HLg).next (unhide HI).2.2
      case q2 => have := unhide Hfit; omega
      intro a1 c1 w2 ho1 hg1
      have hb1 := grown_none hg1
      have HI2 := hide (And.intro ((unhide HI).1.next hb1) (And.intro ((unhide HI).2.1.next hb1) (nnext (unhide HI).2.2 hb1)))
      have HO1 := hide (ho1.lower (C := w.heap.size) (unhide HI).2.2.size)
      clear ho1 hg1 hb1 HI e0
      have HN := hide (lone w2 ⟨a1, c1, ts⟩)
      have HAL := hide (allocB w2 (.cells #[.slice a1 ts.length c1] 27))
      have h4 : Hid (qs.length + 1 ≤ maxLen) := by unfold Hid; simp only [maxLen]; omega
      have h5 : Hid ((qs.length + 1) * 24 ≤ 140737488355328) := by unfold Hid; omega
      go_wp2_with (at_builtin; refine wpList_app1 rfl _ _ 35 rfl i0 _ 24 Try.underlying35 hi0 hz0 hz1 hz2 rfl (by decide) _ qs rfl w.heap.size ?r1 w2.heap.size rfl ⟨a1, c1, ts⟩ (unhide HN) (unhide h5) (unhide h4) ?r4 ?_)
      case r1 => exact (unhide HI2).1.next (unhide HAL)
      case r4 => have := (unhide HI2).2.2.size; omega
      intro a5 c5 w5 hown hgrow
      have HZ : Hid (OwnS w5 w.heap.size (.slice a5 (qs.length + 1) c5) (qs ++ [⟨a1, c1, ts⟩]) ∧ GOwn w5 w.heap.size (qs ++ [⟨a1, c1, ts⟩]) ∧ Below w.heap.size w w5) := by
        have k1 := (unhide HI2).1.next (unhide HAL)
        have k2 := nnext (unhide HI2).2.2 (unhide HAL)
        refine hide ⟨hown, fun q hq => ?_, k2.grown hgrow k2.size (fun g hg => k1.above g hg)⟩
        rcases List.mem_append.1 hq with hq | hq
        · exact GOwn.grown (GOwn.next (unhide HI2).2.1 (unhide HAL)) k1 hgrow q hq
        · obtain rfl := List.mem_singleton.1 hq
          exact ((unhide HO1).next (unhide HAL)).grown hgrow (((unhide HO1).next (unhide HAL)).apart k1 (by decide))
      have HMM : Hid ((qs ++ [(⟨a1, c1, ts⟩ : Lg)]).map (·.ts) = (ls.take (qs.length + 1)).map (·.ts)) := hide (by rw [unhide HT, List.map_append, unhide HM]; rfl)
      clear hown hgrow HI2 HO1 HN HAL h4 h5 HT HM
      go_wp2_with fail
      go_roundg (ls.length - (qs.length + 1))
      case measure => omega
      case rel => exact ⟨qs.length + 1, a5, c5, _, rfl, by simp, by omega, Nat.le_refl _, HMM, HZ⟩
    · obtain rfl : k = ls.length := by omega
      have hki : ¬ ((ls.length : Int) < (ls.length : Int)) := by omega
      have hM := unhide HM
      rw [List.take_length] at hM
      have HM2 := hide hM
      have hqn : qs.length = ls.length := by have := congrArg List.length hM; simpa using this
      have HQN := hide hqn
      have HI3 : Hid (SeqV wr (.slice a' ls.length c') qs ∧ GLogs wr qs ∧ Below w.heap.size w wr) := hide ⟨(unhide HI).1.seq, (unhide HI).2.1.logs, (unhide HI).2.2⟩
      have C1 := committed_any _ qs n wr (unhide HI3).1 (unhide HI3).2.1 (gfit_of hM (unhide HF)) (by rw [hM]; exact unhide HC)
      have HB0 := hide (unhide HI3).2.2
      have HOQ := hide (And.intro (unhide HI).1 (unhide HI).2.1)
      clear hM hqn HI HI3 HM hi0 hz0 hz1 hz2 i0
      go_wp2_with fail
      refine C1.mono ?_
      rintro e w1 ⟨rfl, hb1⟩
      have HB1 := hide (nnext (unhide HB0) hb1)
      have HOQ1 := hide (And.intro ((unhide HOQ).1.next hb1) ((unhide HOQ).2.next hb1))
      clear hb1 C1 HOQ HB0
      go_wp2_with fail
      refine (elects_any _).mono ?_
      rintro e w2 ⟨rfl, hb2⟩
      have HB2 := hide (nnext (unhide HB1) hb2)
      have HOQ2 := hide (And.intro ((unhide HOQ1).1.next hb2) ((unhide HOQ1).2.next hb2))
      clear hb2 HOQ1 HB1
      by_cases h0 : ls.length = 0
      · obtain rfl := List.length_eq_zero_iff.1 h0
        obtain rfl : n = 0 := unhide HC
        go_wp2_with fail
        refine (elects_any _).mono ?_
        rintro e w3 ⟨rfl, hb3⟩
        have HB3 := hide (nnext (unhide HB2) hb3)
        clear hb3
        go_wp2_with fail
        go_ret
        exact ⟨rfl, unhide HB3⟩
      · obtain ⟨l0, hl0⟩ : ∃ l0, ls[0]? = some l0 := ⟨_, List.getElem?_eq_getElem (by omega)⟩
        have HC2 := hide (comL_some hl0 (unhide HC))
        have HCM := hide (comL_more hl0)
        have hle := (unhide HC2).le
        have hl0f : l0.ts.length * 72 ≤ 140737488351232 := (unhide HF).each l0 (List.mem_of_getElem? hl0)
        have HL0 := hide (show LogV w (.slice l0.a l0.ts.length l0.c) l0.ts from unhide HL l0 (List.mem_of_getElem? hl0))
        obtain ⟨b0, off, cap, he, _⟩ := row_of (unhide HV) hl0
        simp only [Value.slice.injEq, true_and] at he
        obtain ⟨rfl, rfl⟩ := he
        have HROW : Hid (∀ W, Below w.heap.size w W → W.cell? ⟨b0, off, none⟩ = some (.slice l0.a l0.ts.length l0.c)) := hide (fun W hW => by
          obtain ⟨b', off', cap', he', hb', q', _⟩ := row_of ((unhide HV).next hW) hl0
          simp only [Value.slice.injEq, Option.some.injEq, Addr.mk.injEq, and_true, true_and] at he'
          obtain ⟨⟨rfl, rfl⟩, _⟩ := he'
          have := q'.lg0 hl0
          simpa using this)
        obtain ⟨tss, htss⟩ : ∃ tss, tss = ls.map (·.ts) := ⟨_, rfl⟩
        rw [← htss] at HC2 HCM HM2
        have HTS := hide htss
        have HTL : Hid (tss.length = ls.length) := hide (by rw [htss]; simp)
        have f0 := unhide HROW w2 (unhide HB2)
        have h0i : (0 : Int) < (ls.length : Int) := by omega
        have h0e : ((ls.length : Int) == 0) = false := by rw [beq_eq_false_iff_ne]; omega
        have hng : ¬ (n : Int) > (l0.ts.length : Int) := by omega
        have hng2 : decide (l0.ts.length < n) = false := by simp; omega
        have hnz : decide ((n : Int) < 0) = false := by simp
        clear hl0 htss h0 hlt HC
        obtain ⟨la, lc, l⟩ := l0
        simp only at *
        go_wp2_with fail
        clear f0
        go_loopg [6] (l.length + 1) (fun kx s6 wr => ∃ i : Nat, s6 = .int .i64 i ∧ i ≤ n + 1 ∧ i ≤ l.length ∧ l.length + 1 - i ≤ kx ∧ Hid (OwnS wr w.heap.size (.slice a' ls.length c') qs ∧ GOwn wr w.heap.size qs) ∧ Hid (Below w.heap.size w wr))
        case atStart => exact ⟨0, rfl, by omega, by omega, by omega, HOQ2, HB2⟩
        case round =>
          obtain ⟨i, rfl, hi1, hi2, hgi, HQ, HB⟩ := hrel
          have f0 := unhide HROW wr (unhide HB)
          by_cases hgo : i ≤ n ∧ i < l.length
          · obtain ⟨hg1, hg2⟩ := hgo
            obtain ⟨t, ht⟩ : ∃ t, l[i]? = some t := ⟨_, List.getElem?_eq_getElem hg2⟩
            have hg1i : (i : Int) ≤ (n : Int) := by omega
            have hg2i : (i : Int) < (l.length : Int) := by omega
            have HT := hide ht
            clear ht
            go_wp2_with fail
            clear f0
            go_loopg [7, 8] ls.length (fun kx s7 s8 wr => ∃ (k c : Nat), s7 = .int .i64 c ∧ s8 = .int .i64 k ∧ k ≤ ls.length ∧ ls.length - k ≤ kx ∧ Hid (cntN (tss.take k) i t = c) ∧ Hid (OwnS wr w.heap.size (.slice a' ls.length c') qs ∧ GOwn wr w.heap.size qs) ∧ Hid (Below w.heap.size w wr))
            case atStart => exact ⟨0, 0, rfl, rfl, Nat.zero_le _, Nat.le_refl _, hide (by simp [cntN]), HQ, HB⟩
            case round =>
              obtain ⟨k, c, rfl, rfl, hk, hgk, HCn, HQk, HBk⟩ := hrel
              by_cases hlt2 : k < ls.length
              · obtain ⟨m, hm⟩ : ∃ m, ls[k]? = some m := ⟨_, List.getElem?_eq_getElem hlt2⟩
                obtain ⟨b', off', cap', he', hb', q', _⟩ := row_of ((unhide HV).next (unhide HBk)) hm
                simp only [Value.slice.injEq, Option.some.injEq, Addr.mk.injEq, and_true, true_and] at he'
                obtain ⟨⟨rfl, rfl⟩, rfl⟩ := he'
                have d0 := q'.lg0 hm
                have hkk : (k : Int) < (ls.length : Int) := by omega
                have HLm := hide (unhide HL m (List.mem_of_getElem? hm))
                have hml := (unhide HF).each m (List.mem_of_getElem? hm)
                have HTk : Hid (tss.take (k + 1) = tss.take k ++ [m.ts]) := hide (by
                  have : tss[k]? = some m.ts := by rw [unhide HTS, List.getElem?_map, hm]; rfl
                  rw [List.take_succ_eq_append_getElem (List.getElem?_eq_some_iff.1 this).1, (List.getElem?_eq_some_iff.1 this).2])
                have HN : Hid (cntN (tss.take (k + 1)) i t = c + if atB m.ts i t = true then 1 else 0) := hide (by rw [unhide HTk, cntN_snoc, unhide HCn])
                have hcle : c ≤ ls.length := by
                  have h1 := cntN_le (tss.take k) i t
                  rw [unhide HCn] at h1
                  have h2 : (tss.take k).length ≤ tss.length := by simp; omega
                  have := unhide HTL
                  omega
                have f0 := unhide HROW wr (unhide HBk)
                clear q' hm hb'
                by_cases him : i < m.ts.length
                · obtain ⟨x, hx⟩ : ∃ x, m.ts[i]? = some x := ⟨_, List.getElem?_eq_getElem him⟩
                  obtain ⟨b1, o1, c1, he1, hb1, q1, _⟩ := log_row ((unhide HLm).next (unhide HBk)) hx
                  simp only [lgV, Value.slice.injEq] at he1
                  obtain ⟨hma, _, hmc⟩ := he1
                  obtain ⟨b2, o2, c2, he2, hb2, q2, _⟩ := log_row ((unhide HL0).next (unhide HBk)) (unhide HT)
                  simp only [Value.slice.injEq] at he2
                  obtain ⟨rfl, _, rfl⟩ := he2
                  have x0 := q1.z hx
                  have x1 := q1.o hx
                  have x2 := q1.s hx
                  have x3 := q1.p hx
                  have x4 := q1.d hx
                  have x5 := q1.v hx
                  have x6 := q1.w hx
                  have t0 := q2.z (unhide HT)
                  have t1 := q2.o (unhide HT)
                  have t2 := q2.s (unhide HT)
                  have t3 := q2.p (unhide HT)
                  have t4 := q2.d (unhide HT)
                  have t5 := q2.v (unhide HT)
                  have t6 := q2.w (unhide HT)
                  have qe := run_eqX x t
                  have hami : (i : Int) < (m.ts.length : Int) := by omega
                  have HA := hide (atB_at (t := t) hx)
                  rw [hma, hmc] at d0
                  clear q1 q2 hx hb1 hb2
                  simp only [txnV] at qe
                  cases hxt : eqX x t
                  · rw [hxt] at qe
                    have HN2 : Hid (cntN (tss.take (k + 1)) i t = c) := hide (by rw [unhide HN, unhide HA, hxt]; simp)
                    clear hxt
                    go_wp2_with fail
                    go_quiet (fail)
                    go_wp2_with fail
                    go_roundg (ls.length - (k + 1))
                    case measure => omega
                    case rel => exact ⟨k + 1, c, rfl, by simp, by omega, Nat.le_refl _, HN2, HQk, hide (belowN (unhide HBk))⟩
                  · rw [hxt] at qe
                    have HN2 : Hid (cntN (tss.take (k + 1)) i t = c + 1) := hide (by rw [unhide HN, unhide HA, hxt]; simp)
                    clear hxt
                    go_wp2_with fail
                    go_quiet (fail)
                    go_wp2_with fail
                    go_roundg (ls.length - (k + 1))
                    case measure => omega
                    case rel => exact ⟨k + 1, c + 1, by simp, by simp, by omega, Nat.le_refl _, HN2, HQk, hide (belowN (unhide HBk))⟩
                · have HN2 : Hid (cntN (tss.take (k + 1)) i t = c) := hide (by rw [unhide HN, atB_no (by omega)]; simp)
                  have him1 : decide ((i : Int) < (m.ts.length : Int)) = false := by simp; omega
                  have him2 : decide (i < m.ts.length) = false := by simp; omega
                  have him3 : m.ts.length ≤ i := by omega
                  clear HLm HTk HN
                  go_wp2_with fail
                  go_quiet (fail)
                  go_wp2_with fail
                  go_roundg (ls.length - (k + 1))
                  case measure => omega
                  case rel => exact ⟨k + 1, c, rfl, by simp, by omega, Nat.le_refl _, HN2, HQk, hide (belowN (unhide HBk))⟩
              · obtain rfl : k = ls.length := by omega
                have hki2 : ¬ ((ls.length : Int) < (ls.length : Int)) := by omega
                have HCc : Hid (cntN tss i t = c) := hide (by
                  have := unhide HCn
                  rwa [← unhide HTL, List.take_length] at this)
                by_cases h2 : i < n
                · have hc2 : (c : Int) ≥ 2 := by
                    have := (unhide HC2).two i t h2 (unhide HT)
                    rw [unhide HCc] at this
                    omega
                  have h2i : (i : Int) < (n : Int) := by omega
                  go_wp2_with fail
                  go_roundg (l.length + 1 - (i + 1))
                  case measure => omega
                  case rel => exact ⟨i + 1, by simp, by omega, by omega, Nat.le_refl _, HQk, HBk⟩
                · obtain rfl : i = n := by omega
                  have hc2 : ¬ (c : Int) ≥ 2 := by
                    have := (unhide HC2).stop t (unhide HT)
                    rw [unhide HCc] at this
                    omega
                  have h2i : ¬ (i : Int) < (i : Int) := by omega
                  go_wp2_with fail
                  go_roundg (l.length + 1 - (i + 1))
                  case measure => omega
                  case rel => exact ⟨i + 1, by simp, by omega, by omega, Nat.le_refl _, HQk, HBk⟩
          · have hq := unhide HQN
            have HSL : Hid (SeqV wr.drew (.slice la l.length lc) l) := hide (seq_log.2 (((unhide HL0).next (unhide HB)).next (Below.refl _ _).drew))
            have HQD : Hid (OwnS wr.drew w.heap.size (.slice a' ls.length c') qs ∧ GOwn wr.drew w.heap.size qs) := hide ⟨(unhide HQ).1.next (Below.refl _ _).drew, (unhide HQ).2.next (Below.refl _ _).drew⟩
            have HLEN : Hid ((qs.length + 1) * 24 ≤ 140737488355328) := hide (by rw [hq]; omega)
            have HFQ : Hid (∀ a2 c2, GFit (qs ++ [(⟨a2, c2, l⟩ : Lg)])) := hide (fun a2 c2 => by
              have hfq := gfit_of (ls := ls) (qs := qs) (by rw [← unhide HTS]; exact unhide HM2) (unhide HF)
              refine ⟨by rw [List.length_append]; exact unhide HLEN, fun p hp => ?_⟩
              rcases List.mem_append.1 hp with hp | hp
              · exact hfq.each p hp
              · obtain rfl := List.mem_singleton.1 hp
                exact hl0f)
            have HCQ : Hid (∀ a2 c2, ComL ((qs ++ [(⟨a2, c2, l⟩ : Lg)]).map (·.ts)) l.length) := hide (fun a2 c2 => by
              rw [List.map_append, unhide HM2]
              exact unhide HCM)
            clear hq
            by_cases hin : i ≤ n
            · have hini : (i : Int) ≤ (n : Int) := by omega
              have hinl : ¬ (i : Int) < (l.length : Int) := by omega
              go_wp2_with fail
              go_region_law (first
                | (refine zstep_copyT (by kernel_rfl) _ _ (by rfl) (by rfl) (.slice la l.length lc) (by rfl) l (unhide HSL) (by omega) ?_; intro a2 c2 w3 ho3 hg3; have hb3 := grown_none hg3; have HX3 := hide (And.intro ho3 hb3); have HB3 := hide (nnext (unhide HB) (nbelow_drew hb3)); have f3 := unhide HROW _ (unhide HB3); have f4 := unhide HROW _ (nnext (unhide HB3) (allocB w3 (.cells #[.slice a2 l.length c2] 27))); clear ho3 hg3 hb3)
                | (refine zstep_app1 (by kernel_rfl) _ _ (by rfl) w.heap.size (.slice a' ls.length c') qs (by rfl) (((unhide HQD).1.next (unhide HX3).2).next (allocB _ _)) w3.heap.size (by rfl) ⟨a2, c2, l⟩ (lone w3 ⟨a2, c2, l⟩) (unhide HLEN) (by have := (unhide HB3).size; simp; omega) ?_; intro a5 c5 w5 ho5 hg5; have C5 := maj_last (unhide HQD).1 (unhide HQD).2 (unhide HX3).2 (unhide HX3).1 ho5 hg5 (unhide HFQ a2 c2) (unhide HCQ a2 c2); have hx5 := nnext (unhide HB3) (allocB w3 (.cells #[.slice a2 l.length c2] 27)); have HB5 := hide (hx5.grown hg5 hx5.size (fun g hg => (unhide HQD).1.above g hg)); have f5 := unhide HROW _ (unhide HB5); clear ho5 hg5 hx5)
                | (go_simp; refine C5.mono ?_; rintro e w6 ⟨rfl, hb6⟩; have HB6 := hide (nnext (unhide HB5) hb6); have f6 := unhide HROW _ (unhide HB6); clear hb6))
              all_goals go_wp2_with fail
              all_goals go_ret
              all_goals exact ⟨rfl, unhide HB6⟩
            · have hini : ¬ (i : Int) ≤ (n : Int) := by omega
              go_wp2_with fail
              go_region_law (first
                | (refine zstep_copyT (by kernel_rfl) _ _ (by rfl) (by rfl) (.slice la l.length lc) (by rfl) l (unhide HSL) (by omega) ?_; intro a2 c2 w3 ho3 hg3; have hb3 := grown_none hg3; have HX3 := hide (And.intro ho3 hb3); have HB3 := hide (nnext (unhide HB) (nbelow_drew hb3)); have f3 := unhide HROW _ (unhide HB3); have f4 := unhide HROW _ (nnext (unhide HB3) (allocB w3 (.cells #[.slice a2 l.length c2] 27))); clear ho3 hg3 hb3)
                | (refine zstep_app1 (by kernel_rfl) _ _ (by rfl) w.heap.size (.slice a' ls.length c') qs (by rfl) (((unhide HQD).1.next (unhide HX3).2).next (allocB _ _)) w3.heap.size (by rfl) ⟨a2, c2, l⟩ (lone w3 ⟨a2, c2, l⟩) (unhide HLEN) (by have := (unhide HB3).size; simp; omega) ?_; intro a5 c5 w5 ho5 hg5; have C5 := maj_last (unhide HQD).1 (unhide HQD).2 (unhide HX3).2 (unhide HX3).1 ho5 hg5 (unhide HFQ a2 c2) (unhide HCQ a2 c2); have hx5 := nnext (unhide HB3) (allocB w3 (.cells #[.slice a2 l.length c2] 27)); have HB5 := hide (hx5.grown hg5 hx5.size (fun g hg => (unhide HQD).1.above g hg)); have f5 := unhide HROW _ (unhide HB5); clear ho5 hg5 hx5)
                | (go_simp; refine C5.mono ?_; rintro e w6 ⟨rfl, hb6⟩; have HB6 := hide (nnext (unhide HB5) hb6); have f6 := unhide HROW _ (unhide HB6); clear hb6))
              all_goals go_wp2_with fail
              all_goals go_ret
              all_goals exact ⟨rfl, unhide HB6⟩
end Go.Proofs.Ytijpnmponjjejaa

namespace Go.Proofs.Ytijpnmponjjejaa
open Go.ChangeShapes Go.WideShapes Go.ChangeAt Go.RowKit Go.ChangeMaps

theorem zcellsStr : Try.prog.cellsOf 9 = 1 := by kernel_rfl
theorem zcellsInt : Try.prog.cellsOf 3 = 1 := by kernel_rfl
theorem zcellsTxn : Try.prog.cellsOf 47 = 7 := by kernel_rfl
theorem zcellsLog : Try.prog.cellsOf 27 = 1 := by kernel_rfl
theorem zbytesTxn : Try.prog.bytesOf 47 = 72 := by kernel_rfl
theorem zbytesLog : Try.prog.bytesOf 27 = 24 := by kernel_rfl
theorem zlaidOut : laidOutB Try.prog = true := by kernel_rfl
theorem zlist_of (s : ByteArray) : ∃ l : List UInt8, s = ⟨l.toArray⟩ := ⟨s.data.toList, rfl⟩

section
variable {H : Type} {enc : TypeId × Value → H} {W : World} {base : Nat} {spare : Nat → Bool} {held : Bool}
set_option maxRecDepth 10000 in
theorem zopen_txn {n : Nat} {cs : List Value} {x : DataW H × List MemPlace} (hl : cs.length = 7) (h : DataW.trod enc Try.prog W base spare held n 47 cs = some x) : ∃ t : WTxn, cs = tcells t ∧ t.z ≤ 9223372036854775807 := by
  match cs, hl with
  | [c0, c1, c2, c3, c4, c5, c6], _ =>
    obtain ⟨xs, n, _, hx, _, hlen, hfs⟩ := DataW.trod_struct Try.underlying47 h
    match xs, hlen with
    | [y0, y1, y2, y3, y4, y5, y6], _ =>
      obtain ⟨z, e0, rfl, w0⟩ := DataW.trod_int Try.underlying3 (show DataW.trod enc Try.prog W base spare held n 3 [c0] = some y0 by simpa [zcellsInt] using hfs 0 _ rfl)
      obtain ⟨o, e1, rfl, _⟩ := DataW.trod_int Try.underlying3 (show DataW.trod enc Try.prog W base spare held n 3 [c1] = some y1 by simpa [zcellsInt] using hfs 1 _ rfl)
      obtain ⟨s, e2, rfl, _⟩ := DataW.trod_int Try.underlying3 (show DataW.trod enc Try.prog W base spare held n 3 [c2] = some y2 by simpa [zcellsInt] using hfs 2 _ rfl)
      obtain ⟨p', e3, rfl, _⟩ := DataW.trod_string Try.underlying9 (show DataW.trod enc Try.prog W base spare held n 9 [c3] = some y3 by simpa [zcellsStr] using hfs 3 _ rfl)
      obtain ⟨d', e4, rfl, _⟩ := DataW.trod_string Try.underlying9 (show DataW.trod enc Try.prog W base spare held n 9 [c4] = some y4 by simpa [zcellsStr] using hfs 4 _ rfl)
      obtain ⟨v', e5, rfl, _⟩ := DataW.trod_int Try.underlying3 (show DataW.trod enc Try.prog W base spare held n 3 [c5] = some y5 by simpa [zcellsInt] using hfs 5 _ rfl)
      obtain ⟨u', e6, rfl, _⟩ := DataW.trod_int Try.underlying3 (show DataW.trod enc Try.prog W base spare held n 3 [c6] = some y6 by simpa [zcellsInt] using hfs 6 _ rfl)
      simp only [List.cons.injEq, and_true] at e0 e1 e2 e3 e4 e5 e6
      subst e0 e1 e2 e3 e4 e5 e6
      obtain ⟨pl, rfl⟩ := zlist_of p'
      obtain ⟨dl, rfl⟩ := zlist_of d'
      exact ⟨⟨z, o, s, pl, dl, v', u'⟩, rfl, (bounds_i64 w0).2⟩
theorem zweightsAll_mem {e : TypeId} : ∀ (l : List (DataW H)) (d : DataW H) (x : Nat), d ∈ l → x ∈ DataW.weights Try.prog e d → x ∈ DataW.weightsAll Try.prog e l
  | d' :: r, d, x, h, hx => by
    rw [DataW.weightsAll]
    rcases List.mem_cons.1 h with rfl | h
    · exact List.mem_append.2 (.inl hx)
    · exact List.mem_append.2 (.inr (zweightsAll_mem r d x h hx))
set_option maxRecDepth 10000 in
/-- a slice of elements that are laid in a row, and what is known of each -/
theorem open_seqP {α : Type} [Lay α] (al : α) {T E : TypeId} (hU : Try.prog.underlying T = some (.slice E)) (hk : Try.prog.cellsOf E = Lay.k α) (hk0 : 0 < Lay.k α) {bytes : Nat} (hby : Try.prog.bytesOf E = bytes) (P : α → Prop) (Q : Nat → α → Prop)
    (ho : ∀ {n : Nat} {cs : List Value} {x : DataW H × List MemPlace}, cs.length = Lay.k α → DataW.trod enc Try.prog W base spare held n E cs = some x → ∃ f : α, cs = Lay.cs f ∧ P f ∧ ∀ M, (∀ y ∈ DataW.weights Try.prog E x.1, y ≤ M) → Q M f)
    {fuel : Nat} {v : Value} {y : DataW H × List MemPlace} (h : DataW.trod enc Try.prog W base spare held fuel T [v] = some y) :
    ∃ xs : List α, SeqV W v xs ∧ (∀ x ∈ xs, P x) ∧ ∀ M, (∀ x ∈ DataW.weights Try.prog T y.1, x ≤ M) → xs.length * bytes ≤ M ∧ ∀ x ∈ xs, Q M x := by
  rcases Go.Deep.open_slice hU h with ⟨h1, hx⟩ | ⟨a, len, cap, m, k, D, Pl, h1, hb, hl, hm, hmm, hx, hel⟩
  · simp only [List.cons.injEq, and_true] at h1
    rw [h1]
    exact ⟨[], SeqV.nil W, by simp, fun M _ => ⟨by simp, by simp⟩⟩
  · simp only [List.cons.injEq, and_true] at h1
    rw [h1]
    subst hx
    have hlm : len ≤ m := by rw [hmm]; split <;> omega
    have each : ∀ i, i < len → ∃ f : α, (∀ c, c < Lay.k α → W.cell? (a.add (i * Lay.k α + c)) = (Lay.cs f)[c]?) ∧ P f ∧ ∀ M, (∀ y ∈ DataW.weights Try.prog E (D i), y ≤ M) → Q M f := by
      intro i hi
      obtain ⟨cs', g1, g2⟩ := hel i (by omega)
      rw [hk] at g1
      obtain ⟨_, hlen, hcell⟩ := World.cells?_some g1
      obtain ⟨f, rfl, hp, hq⟩ := ho hlen g2
      refine ⟨f, fun c hc => ?_, hp, hq⟩
      have := hcell c hc
      rwa [Go.Deep.add_add] at this
    have : Inhabited α := ⟨al⟩
    obtain ⟨F, hF⟩ := Go.Deep.choose_lt each
    refine ⟨(List.range len).map F, ?_, ?_, ?_⟩
    · by_cases h0 : len = 0
      · subst h0
        exact .inl ⟨some a, cap, rfl, rfl, hm⟩
      · have c0 := (hF 0 (by omega)).1 0 hk0
        obtain ⟨y, hy⟩ : ∃ y, (Lay.cs (F 0))[0]? = some y := ⟨_, List.getElem?_eq_getElem (by rw [Lay.len]; exact hk0)⟩
        rw [hy] at c0
        obtain ⟨b, off, sp⟩ := a
        have hsp : sp = none := by
          cases sp with
          | none => rfl
          | some s => simp [World.cell?, Addr.add] at c0; split at c0 <;> simp at c0
        subst hsp
        have hblt : b < W.heap.size := World.block_lt_of_cell? W _ (show W.cell? ((⟨b, off, none⟩ : Addr).add (0 * Lay.k α + 0)) = some _ from c0) |> fun h => by simpa [Addr.add] using h
        refine .inr ⟨b, off, cap, by simp, by simpa using hl, hm, hblt, by simp; omega, fun j u hj => ?_⟩
        have hjl : j < len * Lay.k α := by
          have := (List.getElem?_eq_some_iff.1 hj).1
          rw [cellsL_length, List.length_map, List.length_range] at this
          exact this
        have hi : j / Lay.k α < len := Nat.div_lt_of_lt_mul (by rw [Nat.mul_comm]; exact hjl)
        have hm' : j % Lay.k α < Lay.k α := Nat.mod_lt _ hk0
        have hdm : j / Lay.k α * Lay.k α + j % Lay.k α = j := by rw [Nat.mul_comm]; exact Nat.div_add_mod j _
        have hg := cellsL_get ((List.range len).map F) (j / Lay.k α) (F (j / Lay.k α)) (by rw [List.getElem?_map, List.getElem?_range hi]; rfl) (j % Lay.k α) hm'
        rw [hdm, hj] at hg
        have := (hF (j / Lay.k α) hi).1 (j % Lay.k α) hm'
        rw [hdm, Addr.add_lit, ← hg] at this
        exact this
    · intro x hx
      obtain ⟨i, hi, rfl⟩ := List.mem_map.1 hx
      exact (hF i (by simpa using hi)).2.1
    · intro M hM
      have hw' : DataW.weights Try.prog T (.slice ((List.range len).map D) ((List.range (m - len)).map fun j => D (len + j)) : DataW H) =
          (len + (m - len)) * bytes :: (DataW.weightsAll Try.prog E ((List.range len).map D) ++ DataW.weightsAll Try.prog E ((List.range (m - len)).map fun j => D (len + j))) := by
        simp [DataW.weights, hU, hby]
      rw [hw'] at hM
      refine ⟨?_, fun f hf => ?_⟩
      · have := hM _ (List.mem_cons_self ..)
        simp only [List.length_map, List.length_range]
        exact Nat.le_trans (Nat.mul_le_mul_right _ (by omega)) this
      · obtain ⟨i, hi, rfl⟩ := List.mem_map.1 hf
        have hi' : i < len := by simpa using hi
        exact (hF i hi').2.2 M fun x hx => hM x (List.mem_cons_of_mem _ (List.mem_append.2 (.inl (zweightsAll_mem _ (D i) x (List.mem_map.2 ⟨i, hi, rfl⟩) hx))))

/-- a log's value holds these; what is known of them -/
structure ZLog (W : World) (v : Value) (ts : List WTxn) : Prop where
  log : LogV W v ts
  z : ∀ t ∈ ts, t.z ≤ 9223372036854775807
theorem zopen_log {fuel : Nat} {v : Value} {y : DataW H × List MemPlace} (h : DataW.trod enc Try.prog W base spare held fuel 27 [v] = some y) :
    ∃ (a : Option Addr) (c : Nat) (ts : List WTxn), v = .slice a ts.length c ∧ ZLog W v ts ∧ ∀ M, (∀ x ∈ DataW.weights Try.prog 27 y.1, x ≤ M) → ts.length * 72 ≤ M := by
  obtain ⟨ts, h1, h2, h3⟩ := open_seqP (⟨0, 0, 0, [], [], 0, 0⟩ : WTxn) Try.underlying27 zcellsTxn (by decide) zbytesTxn (fun t => t.z ≤ 9223372036854775807) (fun _ _ => True) (fun hl h => by obtain ⟨t, e, hz⟩ := zopen_txn hl h; exact ⟨t, e, hz, fun _ _ => trivial⟩) h
  obtain ⟨a, c, e⟩ := log_slice (seq_log.1 h1)
  exact ⟨a, c, ts, e, ⟨seq_log.1 h1, h2⟩, fun M hM => (h3 M hM).1⟩
theorem zopen_lg {n : Nat} {cs : List Value} {x : DataW H × List MemPlace} (hl : cs.length = 1) (h : DataW.trod enc Try.prog W base spare held n 27 cs = some x) :
    ∃ l : Lg, cs = [lgV l] ∧ ZLog W (lgV l) l.ts ∧ ∀ M, (∀ y ∈ DataW.weights Try.prog 27 x.1, y ≤ M) → l.ts.length * 72 ≤ M := by
  match cs, hl with
  | [c0], _ =>
    obtain ⟨a, c, ts, rfl, hL, hM⟩ := zopen_log h
    exact ⟨⟨a, c, ts⟩, rfl, hL, hM⟩
theorem open_logs {r : Reach} {b0 : Nat} {v : Value} {d : DataW H} {p : List MemPlace} (hv : Value.okWide Try.prog W r b0 35 v) (h : DataW.Trod enc Try.prog W base spare held 35 v d p) :
    ∃ ls : List Lg, SeqV W v ls ∧ (∀ x ∈ ls, ZLog W (lgV x) x.ts) ∧ ∀ M, (∀ y ∈ DataW.weights Try.prog 35 d, y ≤ M) → ls.length * 24 ≤ M ∧ ∀ x ∈ ls, x.ts.length * 72 ≤ M := by
  obtain ⟨fuel, hf⟩ := h
  obtain ⟨sa, sl, sc, rfl⟩ := okWide_slice Try.underlying35 hv
  exact open_seqP (⟨none, 0, []⟩ : Lg) Try.underlying35 zcellsLog (by decide) zbytesLog (fun x => ZLog W (lgV x) x.ts) (fun M x => x.ts.length * 72 ≤ M) zopen_lg (show DataW.trod enc Try.prog W base spare held fuel 35 [.slice sa sl sc] = some (d, p) by simpa [Value.cells] using hf)
theorem zsized {ts : List TypeId} {ds : List (DataW H)} (h : (DataW.weightsEach Try.prog ts ds).all (· ≤ reachBytes) = true) {j : Nat} {T : TypeId} {d : DataW H} (ht : ts[j]? = some T) (hd : ds[j]? = some d) : ∀ x ∈ DataW.weights Try.prog T d, x ≤ 140737488351232 := by
  intro x hx
  have e : reachBytes = 140737488351232 := by decide
  have h1 := List.all_eq_true.1 h _ (DataW.weights_mem_each ht hd x hx)
  rw [e] at h1
  simpa using h1
end
end Go.Proofs.Ytijpnmponjjejaa
