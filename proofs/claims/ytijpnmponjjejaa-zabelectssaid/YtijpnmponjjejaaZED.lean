/-
  Appends of one element to a row of the call's own, copies of a log; rows of other elements stay.
  aviarylaw.peers: the walk.
  The law ZabLeads: the walk.
  The law ZabElects: the walk.
  A peer, lists of peers and lists of logs, as arguments: opened; what their weights say of their lengths.
-/
import Derived.Test.YtijpnmponjjejaaZEA
import Derived.Deep.AppendLies
import Derived.Deep.RegionHeld3
import Derived.Deep.CutRange
import Derived.Deep.Cut
import Derived.Test.YtijpnmponjjejaaZEB
import Derived.Test.YtijpnmponjjejaaRows
import Derived.WalkKit
import Derived.WalkSpells
import Derived.WalkLawsBesides
import Derived.Deep.QuietTactic
import Derived.Test.YtijpnmponjjejaaZEC
import Derived.ProofKit
import Derived.OpenShut
import Derived.SizedLaws
import Derived.Deep.Slices
import Derived.Carry
namespace Go.Proofs.Ytijpnmponjjejaa
open Go.RowKit

theorem wpList_app1 {α : Type} [Lay α] {w : World} {ops : Array Oper} {rest : List Oper} {o : Oper} {a : Act} {Q : Exit → Act → World → Prop} (hgd : o.guard = none) (s x : Operand) (T : TypeId)
    (ho : o.op = .call { callee := .builtin .append, args := #[s, x], argTypes := #[T, T] })
    (i0 : TypeInfo) (z : Value) (bytes : Nat) (hU : Try.prog.underlying T = some (.slice (Lay.ty α))) (hi0 : Try.prog.info? (Lay.ty α) = some i0) (hz0 : i0.zero = some z) (hz1 : i0.size = Lay.k α) (hz2 : i0.bytes = bytes) (hzs : z.cells.size = Lay.k α) (hk0 : 0 < Lay.k α)
    (v : Value) (ns : List α) (hs : a.eval s = v) (B : Nat) (hown : OwnS w B v ns) (q : Nat) (hx : a.eval x = .slice (some ⟨q, 0, none⟩) 1 1) (t : α) (hnews : OneR w q t) (hl : (ns.length + 1) * bytes ≤ 140737488355328) (hm : ns.length + 1 ≤ maxLen) (hB : B ≤ w.heap.size)
    (h : ∀ a' c' w', OwnS w' B (.slice a' (ns.length + 1) c') (ns ++ [t]) → w.grownBy w' v.ownBlock → wpList Try.prog ops Q rest (a.put o.dst (.slice a' (ns.length + 1) c')) w') :
    wpList Try.prog ops Q (o :: rest) a w := by
  refine wpList_plain hgd fun K hK => ?_
  obtain ⟨v', w', hr, h2, h3, _⟩ := run_append_own (P := Try.prog) w B T o.type (Lay.ty α) i0 z (Lay.k α) bytes hU hi0 hz0 hz1 hz2 hzs hk0 v ns.length (cellsL ns) hown.row ⟨q, 0, none⟩ 1 1 (Lay.cs t) (by rw [Lay.len, Nat.one_mul]) (one_news hnews) (Lay.one t) hm hl hB
  have h2' : OwnS w' B v' (ns ++ [t]) := OwnS.of_row (by rw [List.length_append, cellsL_snoc]; exact h2)
  obtain ⟨a', c', rfl, _⟩ := h2'.slice
  rw [List.length_append, List.length_singleton] at h2' hr
  unfold Oper.wp execOp
  simp only [ho, resolve, invoke, builtin, Sem.run_bind, Sem.run_pure, Result.andThen_ok, List.map_toArray, List.map_cons, List.map_nil, hs, hx, hr]
  exact hK _ _ (h a' c' w' h2' h3)

/- append(nil, l...) at transactions -/
theorem zrun_copyT (W : World) (ty : TypeId) (v : Value) (xs : List WTxn) (hv : SeqV W v xs) (hl : xs.length * 72 ≤ 140737488355328) :
    ∃ v' w', (Builtin.append_ #[27, 27] ty #[.slice none 0 0, v]).run Try.prog W = .ok v' w' ∧ OwnS w' W.heap.size v' xs ∧ W.grownBy w' none := by
  obtain ⟨i0, hi0, hz0, hz1, hz2⟩ := info_txn
  have main : ∀ (a : Addr) (cap : Nat), v = .slice (some a) xs.length cap → (∀ j u, (cellsL xs)[j]? = some u → W.cell? (a.add j) = some u) →
      ∃ v' w', (Builtin.append_ #[27, 27] ty #[.slice none 0 0, v]).run Try.prog W = .ok v' w' ∧ OwnS w' W.heap.size v' xs ∧ W.grownBy w' none := by
    intro a cap e hc
    subst e
    obtain ⟨v', w', h1, h2, h3, _⟩ := run_append_own (P := Try.prog) W W.heap.size 27 ty 47 i0 _ 7 72 Try.underlying27 hi0 hz0 hz1 hz2 rfl (by decide) (.slice none 0 0) 0 [] (World.ownsRow_nil _ _ _ _) a xs.length cap (cellsL xs) (cellsL_length xs) hc (cellsL_one xs)
      (by simp only [maxLen]; omega) (by omega) (Nat.le_refl _)
    refine ⟨v', w', h1, OwnS.of_row (by first | exact h2 | (simp only [List.nil_append, Nat.zero_add] at h2; exact h2) | simpa using h2), h3⟩
  rcases hv with ⟨a, cap, rfl, rfl, _⟩ | ⟨b, off, cap, rfl, _, _, _, _, hr⟩
  · cases a with
    | none =>
      refine ⟨.slice none 0 0, W, ?_, .inl ⟨rfl, rfl⟩, ⟨rfl, rfl, rfl, Nat.le_refl _, fun _ _ _ => rfl⟩⟩
      simp [Builtin.append_, run_underlying Try.underlying27, sizeOf, typeInfo, hi0, Builtin.lenOf, Builtin.firstCells]
    | some a => exact main a cap rfl (fun j u h => by simp [cellsL] at h)
  · exact main ⟨b, off, none⟩ cap rfl (fun j u h => by rw [Addr.add_lit]; exact hr j u h)
theorem zwpList_copyT {w : World} {ops : Array Oper} {rest : List Oper} {o : Oper} {a : Act} {Q : Exit → Act → World → Prop} (hgd : o.guard = none) (s x : Operand)
    (ho : o.op = .call { callee := .builtin .append, args := #[s, x], argTypes := #[27, 27] })
    (hs : a.eval s = .slice none 0 0) (v : Value) (hx : a.eval x = v) (xs : List WTxn) (hv : SeqV w v xs) (hl : xs.length * 72 ≤ 140737488355328)
    (h : ∀ a' c' w', OwnS w' w.heap.size (.slice a' xs.length c') xs → w.grownBy w' none → wpList Try.prog ops Q rest (a.put o.dst (.slice a' xs.length c')) w') : wpList Try.prog ops Q (o :: rest) a w := by
  refine wpList_plain hgd fun K hK => ?_
  obtain ⟨v', w', hr, h2, h3⟩ := zrun_copyT w o.type v xs hv hl
  obtain ⟨a', c', rfl, _⟩ := h2.slice
  unfold Oper.wp execOp
  simp only [ho, resolve, invoke, builtin, Sem.run_bind, Sem.run_pure, Result.andThen_ok, List.map_toArray, List.map_cons, List.map_nil, hs, hx, hr]
  exact hK _ _ (h a' c' w' h2 h3)

/-- rows of elements of two kinds are two blocks -/
theorem OwnS.apart {α β : Type} [Lay α] [Lay β] {W : World} {B C : Nat} {u v : Value} {xs : List α} {ys : List β} (h : OwnS W B u xs) (k : OwnS W C v ys) (hne : Lay.ty α ≠ Lay.ty β) : ∀ q, u.ownBlock = some q → some q ≠ v.ownBlock := by
  intro q hq e
  rcases h with ⟨rfl, rfl⟩ | ⟨g, cap, rfl, _, rest, h1, _⟩
  · simp [Value.ownBlock] at hq
  · rcases k with ⟨rfl, rfl⟩ | ⟨g', cap', rfl, _, rest', h1', _⟩
    · simp [Value.ownBlock] at e
    · simp only [Value.ownBlock, Option.some.injEq] at hq e
      subst hq e
      rw [h1] at h1'
      simp at h1'
      exact hne h1'.2
theorem grown_none {w w' : World} (h : w.grownBy w' none) : Below w.heap.size w w' := ⟨h.os, h.tape, h.output, h.size, fun k hk => h.block k hk (by simp)⟩
/-- the logs of these peers lie in rows of the call's own -/
def POwn (W : World) (B : Nat) (ps : List Pe) : Prop := ∀ p ∈ ps, OwnS W B p.log p.ts
theorem POwn.next {W V : World} {B : Nat} {ps : List Pe} (h : POwn W B ps) (hb : Below W.heap.size W V) : POwn V B ps := fun p hp => (h p hp).next hb
theorem POwn.logs {W : World} {B : Nat} {ps : List Pe} (h : POwn W B ps) : PLogs W ps := fun p hp => seq_log.1 (h p hp).seq
theorem POwn.grown {W V : World} {B C : Nat} {ps qs : List Pe} {v : Value} (h : POwn W B ps) (k : OwnS W C v qs) (hg : W.grownBy V v.ownBlock) : POwn V B ps := fun p hp => (h p hp).grown hg ((h p hp).apart k (by decide))
def GOwn (W : World) (B : Nat) (ls : List Lg) : Prop := ∀ l ∈ ls, OwnS W B (lgV l) l.ts
theorem GOwn.next {W V : World} {B : Nat} {ls : List Lg} (h : GOwn W B ls) (hb : Below W.heap.size W V) : GOwn V B ls := fun p hp => (h p hp).next hb
theorem GOwn.logs {W : World} {B : Nat} {ls : List Lg} (h : GOwn W B ls) : GLogs W ls := fun p hp => seq_log.1 (h p hp).seq
theorem GOwn.grown {W V : World} {B C : Nat} {ls qs : List Lg} {v : Value} (h : GOwn W B ls) (k : OwnS W C v qs) (hg : W.grownBy V v.ownBlock) : GOwn V B ls := fun p hp => (h p hp).grown hg ((h p hp).apart k (by decide))
end Go.Proofs.Ytijpnmponjjejaa

namespace Go.Proofs.Ytijpnmponjjejaa
open Go.RowKit

def pk (p : Pe) : Int × Int × List WTxn := (p.id, p.ep, p.ts)
/-- peers of their own memory that say the same -/
def GivesPe (w : World) (ps : List Pe) (e : Ending) (w' : World) : Prop :=
  ∃ v qs, e = .returned v ∧ OwnS w' w.heap.size v qs ∧ POwn w' w.heap.size qs ∧ qs.map pk = ps.map pk ∧ Below w.heap.size w w'
structure PFit (ps : List Pe) : Prop where
  len : ps.length * 48 ≤ 140737488351232
  each : ∀ p ∈ ps, p.ts.length * 72 ≤ 140737488351232
theorem OwnS.above {α : Type} [Lay α] {W : World} {B : Nat} {v : Value} {xs : List α} (h : OwnS W B v xs) (k : Nat) (hk : v.ownBlock = some k) : B ≤ k := by
  rcases h with ⟨rfl, rfl⟩ | ⟨g, cap, rfl, hB, _⟩
  · simp [Value.ownBlock] at hk
  · simp only [Value.ownBlock, Option.some.injEq] at hk
    rw [← hk]; exact hB
theorem PBox.set2 {W : World} {g : Nat} {p : Pe} (h : PBox W g p) (a : Option Addr) (c : Nat) : PBox (W.setCell ⟨g, 2, none⟩ (.slice a p.ts.length c)) g ⟨p.id, p.ep, a, c, p.ts, p.dn⟩ := by
  unfold PBox at h ⊢
  rw [block_set _ h]
  simp
theorem PBox.other {W V : World} {g B : Nat} {p : Pe} {v : Value} {α : Type} [Lay α] {xs : List α} (h : PBox W g p) (a : Nat) (u : Value) (hne : Lay.ty α ≠ 29) (k : OwnS W B v xs) (hV : V = W.setCell ⟨g, a, none⟩ u) : OwnS V B v xs := by
  subst hV
  refine k.other (fun e => ?_) u
  rcases k with ⟨rfl, rfl⟩ | ⟨g', cap, rfl, _, rest, h1, _⟩
  · simp [Value.ownBlock] at e
  · simp only [Value.ownBlock, Option.some.injEq] at e
    subst e
    unfold PBox at h
    rw [h] at h1
    simp at h1
    exact hne h1.2.symm
theorem pone (W : World) (p : Pe) : OneR (W.alloc (.cells #[.int .i64 p.id, .int .i64 p.ep, .slice p.a p.ts.length p.c, .int .i64 p.dn] 29)) W.heap.size p := heap_alloc_new W _
theorem take_pk {ps : List Pe} {k : Nat} {p : Pe} (h : ps[k]? = some p) : (ps.take (k + 1)).map pk = (ps.take k).map pk ++ [pk p] := by
  obtain ⟨hk, rfl⟩ := List.getElem?_eq_some_iff.1 h
  rw [List.take_succ_eq_append_getElem hk, List.map_append]; rfl

set_option maxRecDepth 10000 in
set_option maxHeartbeats 2000000 in
theorem peers_any (v : Value) (ps : List Pe) (w : World) (hv : SeqV w v ps) (hL : PLogs w ps) (hF : PFit ps) :
    Calls Try.prog 10 #[v] w (GivesPe w ps) := by
  obtain ⟨i0, hi0, hz0, hz1, hz2⟩ := pinfo
  have HV := hide hv
  have HL := hide hL
  have HF := hide hF
  have hn : ps.length * 48 ≤ 140737488351232 := hF.len
  obtain ⟨a, c, rfl⟩ := seq_slice hv
  clear hv hL hF
  go_enter Try.func10, Try.ntmps10
  go_wp2_with fail
  go_loopg [3, 4] ps.length (fun kx s3 s4 wr => ∃ (k : Nat) (a' : Option Addr) (c' : Nat) (qs : List Pe), s3 = .slice a' k c' ∧ s4 = .int .i64 k ∧ k ≤ ps.length ∧ ps.length - k ≤ kx ∧ Hid (qs.map pk = (ps.take k).map pk) ∧ Hid (OwnS wr w.heap.size (.slice a' k c') qs ∧ POwn wr w.heap.size qs ∧ Below w.heap.size w wr))
  case atStart => exact ⟨0, none, 0, [], rfl, rfl, Nat.zero_le _, by omega, hide rfl, hide ⟨.inl ⟨rfl, rfl⟩, fun p hp => by simp at hp, Below.refl _ _⟩⟩
  case round =>
    obtain ⟨k, a', c', qs, rfl, rfl, hk, hkx, HM, HI⟩ := hrel
    by_cases hlt : k < ps.length
    · obtain ⟨p, hp⟩ : ∃ p, ps[k]? = some p := ⟨_, List.getElem?_eq_getElem hlt⟩
      have hq : qs.length = k := by have := congrArg List.length (unhide HM); simp at this; omega
      subst hq
      obtain ⟨b, off, cap, he, hb, hr, _, _, _⟩ := row_of ((unhide HV).next (unhide HI).2.2) hp
      simp only [Value.slice.injEq, true_and] at he
      obtain ⟨rfl, rfl⟩ := he
      have e0 := hr.pe0 hp
      have e1 := hr.pe1 hp
      have e2 := hr.pe2 hp
      have e3 := hr.pe3 hp
      have hlti : (qs.length : Int) < (ps.length : Int) := by omega
      have hmem := List.mem_of_getElem? hp
      have HLg := hide (seq_log.2 ((unhide HL) p hmem))
      have Hfit := hide ((unhide HF).each p hmem)
      have HT := hide (take_pk hp)
      have hk63 : qs.length < 9223372036854775807 := by omega
      have HA := hide (allocB wr (.cells #[.int .i64 p.id, .int .i64 p.ep, .slice p.a p.ts.length p.c, .int .i64 p.dn] 29))
      have HP := hide (PBox.new wr p)
      clear hr hp hb hmem
      obtain ⟨i, ep, la, lc, ts, dn⟩ := p
      simp only [Pe.log] at *
      go_wp2_with (at_builtin; refine zwpList_copyT rfl _ _ rfl rfl _ rfl ts ?q1 ?q2 ?_)
      case q1 => exact (unhide HLg).next (nnext (unhide HI).2.2 (unhide HA))
      case q2 => have := unhide Hfit; omega
      intro a1 c1 w2 ho1 hg1
      have hb1 := grown_none hg1
      have P2 := (unhide HP).next hb1
      have HP2 := hide P2
      have e5 := P2.c2
      have e6 := P2.f 2
      have HI2 := hide (And.intro ((unhide HI).1.next (nnext (unhide HA) hb1)) (And.intro ((unhide HI).2.1.next (nnext (unhide HA) hb1)) (nnext (unhide HI).2.2 (nnext (unhide HA) hb1))))
      have HLW := hide (unhide HI).1.low
      have HWS := hide (unhide HI).2.2.size
      have HO1 := hide (ho1.lower (C := w.heap.size) (by have h1 := (unhide HI).2.2.size; simp; omega))
      clear ho1 hg1 hb1 P2 HI e0 e1 e2 e3
      go_upto_region 7 with fail
      obtain ⟨W3, hW3⟩ : ∃ W3, W3 = w2.setCell ⟨wr.heap.size, 2, none⟩ (.slice a1 ts.length c1) := ⟨_, rfl⟩
      have P3 : PBox W3 wr.heap.size ⟨i, ep, a1, c1, ts, dn⟩ := by rw [hW3]; exact (unhide HP2).set2 a1 c1
      have HI3 := hide (And.intro (show OwnS W3 w.heap.size (.slice a' qs.length c') qs by rw [hW3]; exact (unhide HI2).1.other (fun e => Nat.lt_irrefl _ (unhide HLW _ e)) _) (And.intro (fun q hq => (unhide HP2).other _ _ (by decide) ((unhide HI2).2.1 q hq) hW3) (show Below w.heap.size w W3 by rw [hW3]; exact (unhide HI2).2.2.setCell (unhide HWS) _)))
      have HO3 := hide ((unhide HP2).other _ _ (by decide) (unhide HO1) hW3)
      have e0 := P3.c0
      have e1 := P3.c1
      have e2 := P3.c2
      have e3 := P3.c3
      rw [← hW3]
      clear P3 hW3 HI2 HO1 HP2 e5 e6
      have HN := hide (pone W3 ⟨i, ep, a1, c1, ts, dn⟩)
      have HAL := hide (allocB W3 (.cells #[.int .i64 i, .int .i64 ep, .slice a1 ts.length c1, .int .i64 dn] 29))
      have h4 : Hid (qs.length + 1 ≤ maxLen) := by unfold Hid; simp only [maxLen]; omega
      have h5 : Hid ((qs.length + 1) * 48 ≤ 140737488355328) := by unfold Hid; omega
      go_wp2_with (at_builtin; refine wpList_app1 rfl _ _ 22 rfl i0 _ 48 Try.underlying22 hi0 hz0 hz1 hz2 rfl (by decide) _ qs rfl w.heap.size ?r1 W3.heap.size rfl ⟨i, ep, a1, c1, ts, dn⟩ (unhide HN) (unhide h5) (unhide h4) ?r4 ?_)
      case r1 => exact (unhide HI3).1.next (unhide HAL)
      case r4 => have := (unhide HI3).2.2.size; omega
      intro a5 c5 w5 hown hgrow
      have HZ : Hid (OwnS w5 w.heap.size (.slice a5 (qs.length + 1) c5) (qs ++ [⟨i, ep, a1, c1, ts, dn⟩]) ∧ POwn w5 w.heap.size (qs ++ [⟨i, ep, a1, c1, ts, dn⟩]) ∧ Below w.heap.size w w5) := by
        have k1 := (unhide HI3).1.next (unhide HAL)
        have k2 := nnext (unhide HI3).2.2 (unhide HAL)
        refine hide ⟨hown, fun q hq => ?_, k2.grown hgrow k2.size (fun g hg => k1.above g hg)⟩
        rcases List.mem_append.1 hq with hq | hq
        · exact POwn.grown (POwn.next (unhide HI3).2.1 (unhide HAL)) k1 hgrow q hq
        · obtain rfl := List.mem_singleton.1 hq
          exact ((unhide HO3).next (unhide HAL)).grown hgrow (((unhide HO3).next (unhide HAL)).apart k1 (by decide))
      have HMM : Hid ((qs ++ [(⟨i, ep, a1, c1, ts, dn⟩ : Pe)]).map pk = (ps.take (qs.length + 1)).map pk) := hide (by rw [unhide HT, List.map_append, unhide HM]; rfl)
      clear hown hgrow HI3 HO3 HN HAL h4 h5 e0 e1 e2 e3 HT HM
      go_wp2_with fail
      go_roundg (ps.length - (qs.length + 1))
      case measure => omega
      case rel => exact ⟨qs.length + 1, a5, c5, _, rfl, by simp, by omega, Nat.le_refl _, HMM, HZ⟩
    · obtain rfl : k = ps.length := by omega
      have hki : ¬ ((ps.length : Int) < (ps.length : Int)) := by omega
      go_wp2_with fail
      go_ret
      obtain ⟨h1, h2, h3⟩ := unhide HI
      exact ⟨_, qs, rfl, h1, h2, by rw [unhide HM, List.take_length], h3⟩
end Go.Proofs.Ytijpnmponjjejaa

namespace Go.Proofs.Ytijpnmponjjejaa
open Go.RowKit

theorem kk_of_pk {ps qs : List Pe} (h : qs.map pk = ps.map pk) : qs.map kk = ps.map kk := by
  have := congrArg (List.map (fun t : Int × Int × List WTxn => ((t.1, t.2.1, lastZ t.2.2) : Key))) h
  rw [List.map_map, List.map_map] at this
  exact this
end Go.Proofs.Ytijpnmponjjejaa

namespace Go.Proofs.Ytijpnmponjjejaa
open Go.RowKit

set_option maxRecDepth 10000 in
set_option maxHeartbeats 4000000 in
theorem zabElects_walk (v : Value) (ps : List Pe) (w : World) (hv : SeqV w v ps) (hL : PLogs w ps) (hz : ∀ p ∈ ps, lastZ p.ts ≤ 9223372036854775807) (hF : PFit ps) :
    Calls Try.prog 3 #[v] w fun e w' => e = .returned (.bool true) ∧ Below w.heap.size w w' := by
  have hlen : ps.length ≤ 140737488355328 := by have := hF.len; omega
  obtain ⟨k, n, E, hA⟩ := ans_ex (ps.map kk)
  have C1 := peers_any v ps w hv hL hF
  have CE := hide (fun v1 qs W h1 h2 (h3 : qs.map pk = ps.map pk) => elect_any v1 qs W k n E h1 h2 (by rw [kk_of_pk h3]; exact hA) (by have := congrArg List.length h3; simp at this; omega))
  have CR := hide (fun W (hW : Below w.heap.size w W) => relect_any v ps W k n E (hv.next hW) (hL.next hW) hz hA hlen)
  obtain ⟨va, vc, rfl⟩ := seq_slice hv
  clear hv hL hF hA hz
  go_enter Try.func3, Try.ntmps3
  go_wp2_with fail
  refine C1.mono ?_
  rintro e w1 ⟨v1, qs, rfl, o1, p1, h1, hb1⟩
  obtain ⟨a1, c1, rfl, _⟩ := o1.slice
  have C2 := unhide CE _ qs w1 o1.seq p1.logs h1
  have HB1 := hide hb1
  clear o1 p1 h1 hb1 C1 CE
  go_wp2_with fail
  refine C2.mono ?_
  rintro e w2 ⟨rfl, hb2⟩
  have HB2 := hide (nnext (unhide HB1) hb2)
  clear hb2 C2
  go_wp2_with fail
  refine (unhide CR _ (unhide HB2)).mono ?_
  rintro e w3 ⟨rfl, hb3⟩
  have HB3 := hide (nnext (unhide HB2) hb3)
  clear hb3 HB1 HB2
  go_wp2_with fail
  refine (elect01 _).mono ?_
  rintro e w4 ⟨rfl, hb4⟩
  have HB4 := hide (nnext (unhide HB3) hb4)
  clear hb4 HB3
  go_wp2_with fail
  refine (quorum_any _).mono ?_
  rintro e w5 ⟨rfl, rfl⟩
  go_wp2_with fail
  go_ret
  exact ⟨rfl, unhide HB4⟩
end Go.Proofs.Ytijpnmponjjejaa

namespace Go.Proofs.Ytijpnmponjjejaa
open Go.ChangeShapes Go.WideShapes Go.ChangeAt Go.RowKit Go.ChangeMaps

theorem zcellsStr : Try.prog.cellsOf 9 = 1 := by kernel_rfl
theorem zcellsInt : Try.prog.cellsOf 3 = 1 := by kernel_rfl
theorem zcellsTxn : Try.prog.cellsOf 47 = 7 := by kernel_rfl
theorem zcellsPeer : Try.prog.cellsOf 29 = 4 := by kernel_rfl
theorem zcellsLog : Try.prog.cellsOf 27 = 1 := by kernel_rfl
theorem zbytesTxn : Try.prog.bytesOf 47 = 72 := by kernel_rfl
theorem zbytesPeer : Try.prog.bytesOf 29 = 48 := by kernel_rfl
theorem zlaidOut : laidOutB Try.prog = true := by kernel_rfl
theorem zlist_of (s : ByteArray) : ∃ l : List UInt8, s = ⟨l.toArray⟩ := ⟨s.data.toList, rfl⟩

section
variable {H : Type} {enc : TypeId × Value → H} {W : World} {base : Nat} {spare : Nat → Bool} {held : Bool}
set_option maxRecDepth 10000 in
theorem zopen_txn {n : Nat} {cs : List Value} {x : DataW H × List MemPlace} (hl : cs.length = 7) (h : DataW.trod enc Try.prog W base spare held n 47 cs = some x) : ∃ t : WTxn, cs = tcells t ∧ t.z ≤ 9223372036854775807 := by
  match cs, hl with
  | [c0, c1, c2, c3, c4, c5, c6], _ =>
    obtain ⟨xs, n, _, hx, _, hlen, hfs⟩ := DataW.trod_struct Try.underlying47 h
    match xs, hlen with
    | [y0, y1, y2, y3, y4, y5, y6], _ =>
      obtain ⟨z, e0, rfl, w0⟩ := DataW.trod_int Try.underlying3 (show DataW.trod enc Try.prog W base spare held n 3 [c0] = some y0 by simpa [zcellsInt] using hfs 0 _ rfl)
      obtain ⟨o, e1, rfl, _⟩ := DataW.trod_int Try.underlying3 (show DataW.trod enc Try.prog W base spare held n 3 [c1] = some y1 by simpa [zcellsInt] using hfs 1 _ rfl)
      obtain ⟨s, e2, rfl, _⟩ := DataW.trod_int Try.underlying3 (show DataW.trod enc Try.prog W base spare held n 3 [c2] = some y2 by simpa [zcellsInt] using hfs 2 _ rfl)
      obtain ⟨p', e3, rfl, _⟩ := DataW.trod_string Try.underlying9 (show DataW.trod enc Try.prog W base spare held n 9 [c3] = some y3 by simpa [zcellsStr] using hfs 3 _ rfl)
      obtain ⟨d', e4, rfl, _⟩ := DataW.trod_string Try.underlying9 (show DataW.trod enc Try.prog W base spare held n 9 [c4] = some y4 by simpa [zcellsStr] using hfs 4 _ rfl)
      obtain ⟨v', e5, rfl, _⟩ := DataW.trod_int Try.underlying3 (show DataW.trod enc Try.prog W base spare held n 3 [c5] = some y5 by simpa [zcellsInt] using hfs 5 _ rfl)
      obtain ⟨u', e6, rfl, _⟩ := DataW.trod_int Try.underlying3 (show DataW.trod enc Try.prog W base spare held n 3 [c6] = some y6 by simpa [zcellsInt] using hfs 6 _ rfl)
      simp only [List.cons.injEq, and_true] at e0 e1 e2 e3 e4 e5 e6
      subst e0 e1 e2 e3 e4 e5 e6
      obtain ⟨pl, rfl⟩ := zlist_of p'
      obtain ⟨dl, rfl⟩ := zlist_of d'
      exact ⟨⟨z, o, s, pl, dl, v', u'⟩, rfl, (bounds_i64 w0).2⟩
theorem zweightsAll_mem {e : TypeId} : ∀ (l : List (DataW H)) (d : DataW H) (x : Nat), d ∈ l → x ∈ DataW.weights Try.prog e d → x ∈ DataW.weightsAll Try.prog e l
  | d' :: r, d, x, h, hx => by
    rw [DataW.weightsAll]
    rcases List.mem_cons.1 h with rfl | h
    · exact List.mem_append.2 (.inl hx)
    · exact List.mem_append.2 (.inr (zweightsAll_mem r d x h hx))
set_option maxRecDepth 10000 in
/-- a slice of elements that are laid in a row, and what is known of each -/
theorem open_seqP {α : Type} [Lay α] (al : α) {T E : TypeId} (hU : Try.prog.underlying T = some (.slice E)) (hk : Try.prog.cellsOf E = Lay.k α) (hk0 : 0 < Lay.k α) {bytes : Nat} (hby : Try.prog.bytesOf E = bytes) (P : α → Prop) (Q : Nat → α → Prop)
    (ho : ∀ {n : Nat} {cs : List Value} {x : DataW H × List MemPlace}, cs.length = Lay.k α → DataW.trod enc Try.prog W base spare held n E cs = some x → ∃ f : α, cs = Lay.cs f ∧ P f ∧ ∀ M, (∀ y ∈ DataW.weights Try.prog E x.1, y ≤ M) → Q M f)
    {fuel : Nat} {v : Value} {y : DataW H × List MemPlace} (h : DataW.trod enc Try.prog W base spare held fuel T [v] = some y) :
    ∃ xs : List α, SeqV W v xs ∧ (∀ x ∈ xs, P x) ∧ ∀ M, (∀ x ∈ DataW.weights Try.prog T y.1, x ≤ M) → xs.length * bytes ≤ M ∧ ∀ x ∈ xs, Q M x := by
  rcases Go.Deep.open_slice hU h with ⟨h1, hx⟩ | ⟨a, len, cap, m, k, D, Pl, h1, hb, hl, hm, hmm, hx, hel⟩
  · simp only [List.cons.injEq, and_true] at h1
    rw [h1]
    exact ⟨[], SeqV.nil W, by simp, fun M _ => ⟨by simp, by simp⟩⟩
  · simp only [List.cons.injEq, and_true] at h1
    rw [h1]
    subst hx
    have hlm : len ≤ m := by rw [hmm]; split <;> omega
    have each : ∀ i, i < len → ∃ f : α, (∀ c, c < Lay.k α → W.cell? (a.add (i * Lay.k α + c)) = (Lay.cs f)[c]?) ∧ P f ∧ ∀ M, (∀ y ∈ DataW.weights Try.prog E (D i), y ≤ M) → Q M f := by
      intro i hi
      obtain ⟨cs', g1, g2⟩ := hel i (by omega)
      rw [hk] at g1
      obtain ⟨_, hlen, hcell⟩ := World.cells?_some g1
      obtain ⟨f, rfl, hp, hq⟩ := ho hlen g2
      refine ⟨f, fun c hc => ?_, hp, hq⟩
      have := hcell c hc
      rwa [Go.Deep.add_add] at this
    have : Inhabited α := ⟨al⟩
    obtain ⟨F, hF⟩ := Go.Deep.choose_lt each
    refine ⟨(List.range len).map F, ?_, ?_, ?_⟩
    · by_cases h0 : len = 0
      · subst h0
        exact .inl ⟨some a, cap, rfl, rfl, hm⟩
      · have c0 := (hF 0 (by omega)).1 0 hk0
        obtain ⟨y, hy⟩ : ∃ y, (Lay.cs (F 0))[0]? = some y := ⟨_, List.getElem?_eq_getElem (by rw [Lay.len]; exact hk0)⟩
        rw [hy] at c0
        obtain ⟨b, off, sp⟩ := a
        have hsp : sp = none := by
          cases sp with
          | none => rfl
          | some s => simp [World.cell?, Addr.add] at c0; split at c0 <;> simp at c0
        subst hsp
        have hblt : b < W.heap.size := World.block_lt_of_cell? W _ (show W.cell? ((⟨b, off, none⟩ : Addr).add (0 * Lay.k α + 0)) = some _ from c0) |> fun h => by simpa [Addr.add] using h
        refine .inr ⟨b, off, cap, by simp, by simpa using hl, hm, hblt, by simp; omega, fun j u hj => ?_⟩
        have hjl : j < len * Lay.k α := by
          have := (List.getElem?_eq_some_iff.1 hj).1
          rw [cellsL_length, List.length_map, List.length_range] at this
          exact this
        have hi : j / Lay.k α < len := Nat.div_lt_of_lt_mul (by rw [Nat.mul_comm]; exact hjl)
        have hm' : j % Lay.k α < Lay.k α := Nat.mod_lt _ hk0
        have hdm : j / Lay.k α * Lay.k α + j % Lay.k α = j := by rw [Nat.mul_comm]; exact Nat.div_add_mod j _
        have hg := cellsL_get ((List.range len).map F) (j / Lay.k α) (F (j / Lay.k α)) (by rw [List.getElem?_map, List.getElem?_range hi]; rfl) (j % Lay.k α) hm'
        rw [hdm, hj] at hg
        have := (hF (j / Lay.k α) hi).1 (j % Lay.k α) hm'
        rw [hdm, Addr.add_lit, ← hg] at this
        exact this
    · intro x hx
      obtain ⟨i, hi, rfl⟩ := List.mem_map.1 hx
      exact (hF i (by simpa using hi)).2.1
    · intro M hM
      have hw' : DataW.weights Try.prog T (.slice ((List.range len).map D) ((List.range (m - len)).map fun j => D (len + j)) : DataW H) =
          (len + (m - len)) * bytes :: (DataW.weightsAll Try.prog E ((List.range len).map D) ++ DataW.weightsAll Try.prog E ((List.range (m - len)).map fun j => D (len + j))) := by
        simp [DataW.weights, hU, hby]
      rw [hw'] at hM
      refine ⟨?_, fun f hf => ?_⟩
      · have := hM _ (List.mem_cons_self ..)
        simp only [List.length_map, List.length_range]
        exact Nat.le_trans (Nat.mul_le_mul_right _ (by omega)) this
      · obtain ⟨i, hi, rfl⟩ := List.mem_map.1 hf
        have hi' : i < len := by simpa using hi
        exact (hF i hi').2.2 M fun x hx => hM x (List.mem_cons_of_mem _ (List.mem_append.2 (.inl (zweightsAll_mem _ (D i) x (List.mem_map.2 ⟨i, hi, rfl⟩) hx))))

/-- a log's value holds these; what is known of them -/
structure ZLog (W : World) (v : Value) (ts : List WTxn) : Prop where
  log : LogV W v ts
  z : ∀ t ∈ ts, t.z ≤ 9223372036854775807
theorem ZLog.last {W : World} {v : Value} {ts : List WTxn} (h : ZLog W v ts) : lastZ ts ≤ 9223372036854775807 := by
  by_cases h0 : ts.length = 0
  · obtain rfl := List.length_eq_zero_iff.1 h0
    rw [lastZ_nil]; decide
  · obtain ⟨m, x, rfl⟩ := snoc_of h0
    rw [lastZ_snoc]
    exact h.z x (by simp)
theorem zopen_log {fuel : Nat} {v : Value} {y : DataW H × List MemPlace} (h : DataW.trod enc Try.prog W base spare held fuel 27 [v] = some y) :
    ∃ (a : Option Addr) (c : Nat) (ts : List WTxn), v = .slice a ts.length c ∧ ZLog W v ts ∧ ∀ M, (∀ x ∈ DataW.weights Try.prog 27 y.1, x ≤ M) → ts.length * 72 ≤ M := by
  obtain ⟨ts, h1, h2, h3⟩ := open_seqP (⟨0, 0, 0, [], [], 0, 0⟩ : WTxn) Try.underlying27 zcellsTxn (by decide) zbytesTxn (fun t => t.z ≤ 9223372036854775807) (fun _ _ => True) (fun hl h => by obtain ⟨t, e, hz⟩ := zopen_txn hl h; exact ⟨t, e, hz, fun _ _ => trivial⟩) h
  obtain ⟨a, c, e⟩ := log_slice (seq_log.1 h1)
  exact ⟨a, c, ts, e, ⟨seq_log.1 h1, h2⟩, fun M hM => (h3 M hM).1⟩
set_option maxRecDepth 10000 in
theorem zopen_pe {n : Nat} {cs : List Value} {x : DataW H × List MemPlace} (hl : cs.length = 4) (h : DataW.trod enc Try.prog W base spare held n 29 cs = some x) :
    ∃ p : Pe, cs = pcells p ∧ ZLog W p.log p.ts ∧ ∀ M, (∀ y ∈ DataW.weights Try.prog 29 x.1, y ≤ M) → p.ts.length * 72 ≤ M := by
  match cs, hl with
  | [c0, c1, c2, c3], _ =>
    obtain ⟨xs, n, _, hx, _, hlen, hfs⟩ := DataW.trod_struct Try.underlying29 h
    match xs, hlen with
    | [y0, y1, y2, y3], _ =>
      obtain ⟨i, e0, rfl, _⟩ := DataW.trod_int Try.underlying3 (show DataW.trod enc Try.prog W base spare held n 3 [c0] = some y0 by simpa [zcellsInt] using hfs 0 _ rfl)
      obtain ⟨ep, e1, rfl, _⟩ := DataW.trod_int Try.underlying3 (show DataW.trod enc Try.prog W base spare held n 3 [c1] = some y1 by simpa [zcellsInt] using hfs 1 _ rfl)
      obtain ⟨a, c, ts, e2, hL, hM⟩ := zopen_log (show DataW.trod enc Try.prog W base spare held n 27 [c2] = some y2 by simpa [zcellsInt, zcellsLog] using hfs 2 _ rfl)
      obtain ⟨dn, e3, rfl, _⟩ := DataW.trod_int Try.underlying3 (show DataW.trod enc Try.prog W base spare held n 3 [c3] = some y3 by simpa [zcellsInt, zcellsLog] using hfs 3 _ rfl)
      simp only [List.cons.injEq, and_true] at e0 e1 e3
      subst e0 e1 e2 e3 hx
      refine ⟨⟨i, ep, a, c, ts, dn⟩, rfl, hL, fun M hW => hM M fun q hq => hW q ?_⟩
      simp [DataW.weights, Try.underlying29, DataW.weightsEach, hq]
theorem open_peers {r : Reach} {b0 : Nat} {v : Value} {d : DataW H} {p : List MemPlace} (hv : Value.okWide Try.prog W r b0 22 v) (h : DataW.Trod enc Try.prog W base spare held 22 v d p) :
    ∃ ps : List Pe, SeqV W v ps ∧ (∀ x ∈ ps, ZLog W x.log x.ts) ∧ ∀ M, (∀ y ∈ DataW.weights Try.prog 22 d, y ≤ M) → ps.length * 48 ≤ M ∧ ∀ x ∈ ps, x.ts.length * 72 ≤ M := by
  obtain ⟨fuel, hf⟩ := h
  obtain ⟨sa, sl, sc, rfl⟩ := okWide_slice Try.underlying22 hv
  exact open_seqP pe0 Try.underlying22 zcellsPeer (by decide) zbytesPeer (fun x => ZLog W x.log x.ts) (fun M x => x.ts.length * 72 ≤ M) zopen_pe (show DataW.trod enc Try.prog W base spare held fuel 22 [.slice sa sl sc] = some (d, p) by simpa [Value.cells] using hf)
theorem zsized {ts : List TypeId} {ds : List (DataW H)} (h : (DataW.weightsEach Try.prog ts ds).all (· ≤ reachBytes) = true) {j : Nat} {T : TypeId} {d : DataW H} (ht : ts[j]? = some T) (hd : ds[j]? = some d) : ∀ x ∈ DataW.weights Try.prog T d, x ≤ 140737488351232 := by
  intro x hx
  have e : reachBytes = 140737488351232 := by decide
  have h1 := List.all_eq_true.1 h _ (DataW.weights_mem_each ht hd x hx)
  rw [e] at h1
  simpa using h1
end
end Go.Proofs.Ytijpnmponjjejaa
