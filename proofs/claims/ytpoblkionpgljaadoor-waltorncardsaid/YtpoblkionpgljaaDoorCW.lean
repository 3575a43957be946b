/-
  A copy of a log by append to nil: what it comes to, and as a step of a walk.
  Two steps of a region that draws its order: a copy of a log by append to nil; one transaction appended to a row of the call's own.
-/
import Derived.Test.YtpoblkionpgljaaDoorMF
import Derived.Laws.AppendOwnNone
import Derived.Deep.RegionLaw
namespace Go.Proofs.YtpoblkionpgljaaDoor
open Go.RowKit

theorem run_copy_log (W : World) (ty : TypeId) (v : Value) (ts : List WTxn) (hv : LogV W v ts) (hl : ts.length * 72 ≤ 140737488355328) :
    ∃ v' w', (Builtin.append_ #[22, 22] ty #[.slice none 0 0, v]).run Tryd.prog W = .ok v' w' ∧ OwnL w' W.heap.size v' ts ∧ W.grownBy w' none := by
  obtain ⟨i0, hi0, hz0, hz1, hz2⟩ := info_txn
  have main : ∀ (a : Addr) (cap : Nat), v = .slice (some a) ts.length cap → (∀ j u, (cellsT ts)[j]? = some u → W.cell? (a.add j) = some u) →
      ∃ v' w', (Builtin.append_ #[22, 22] ty #[.slice none 0 0, v]).run Tryd.prog W = .ok v' w' ∧ OwnL w' W.heap.size v' ts ∧ W.grownBy w' none := by
    intro a cap e hc
    subst e
    obtain ⟨v', w', h1, h2, h3, _⟩ := run_append_own (P := Tryd.prog) W W.heap.size 22 ty 29 i0 (txnV t0) 7 72 Tryd.underlying22 hi0 hz0 hz1 hz2 rfl (by decide) (.slice none 0 0) 0 [] (World.ownsRow_nil _ _ _ _) a ts.length cap (cellsT ts) (cellsT_length ts) hc
      (fun u hu => by
        obtain ⟨j, hj⟩ := List.getElem?_of_mem hu
        have hlt := (List.getElem?_eq_some_iff.1 hj).1
        rw [cellsT_length] at hlt
        have hg := cellsT_get ts (j / 7) _ (List.getElem?_eq_getElem (by omega)) (j % 7) (by omega)
        rw [show j / 7 * 7 + j % 7 = j by omega, hj] at hg
        exact tcells_one _ u (List.mem_of_getElem? hg.symm))
      (by simp only [maxLen]; omega) (by omega) (Nat.le_refl _)
    refine ⟨v', w', h1, ?_, h3⟩
    simpa [OwnL] using h2
  rcases hv with ⟨a, cap, rfl, rfl, _⟩ | ⟨b, off, cap, rfl, _, _, _, _, hr⟩
  · cases a with
    | none =>
      refine ⟨.slice none 0 0, W, ?_, OwnL.nil _ _, ⟨rfl, rfl, rfl, Nat.le_refl _, fun _ _ _ => rfl⟩⟩
      simp [Builtin.append_, run_underlying Tryd.underlying22, sizeOf, typeInfo, hi0, Builtin.lenOf, Builtin.firstCells]
    | some a => exact main a cap rfl (fun j u h => by simp [cellsT] at h)
  · exact main ⟨b, off, none⟩ cap rfl (fun j u h => by rw [Addr.add_lit]; exact hr j u h)

theorem wpList_copy_log {w : World} {ops : Array Oper} {rest : List Oper} {o : Oper} {a : Act} {Q : Exit → Act → World → Prop} (hgd : Region.wanted o (yielded ops a.tmps) = true) (s x : Operand)
    (ho : o.op = .call { callee := .builtin .append, args := #[s, x], argTypes := #[22, 22] })
    (hs : a.eval s = .slice none 0 0) (v : Value) (hx : a.eval x = v) (ts : List WTxn) (hv : LogV w v ts) (hl : ts.length * 72 ≤ 140737488355328)
    (h : ∀ v' w', OwnL w' w.heap.size v' ts → w.grownBy w' none → wpList Tryd.prog ops Q rest (a.put o.dst v') w') : wpList Tryd.prog ops Q (o :: rest) a w := by
  obtain ⟨v', w', hr, h2, h3⟩ := run_copy_log w o.type v ts hv hl
  refine wpList_step fun K hK => ?_
  rw [if_pos hgd]
  unfold Oper.wp execOp
  simp only [ho, resolve, invoke, builtin, Sem.run_bind, Sem.run_pure, Result.andThen_ok, List.map_toArray, List.map_cons, List.map_nil, hs, hx, hr]
  exact hK _ _ (h v' w' h2 h3)
end Go.Proofs.YtpoblkionpgljaaDoor

namespace Go.Proofs.YtpoblkionpgljaaDoor
open Go.RowKit

theorem step_copy_log {w : World} {ops : Array Oper} {o : Oper} {a : Act} {K : Act → World → Prop} {Q : Exit → Act → World → Prop} {E : Prop} (hgd : Region.wanted o (yielded ops a.tmps) = true) (s x : Operand)
    (ho : o.op = .call { callee := .builtin .append, args := #[s, x], argTypes := #[22, 22] })
    (hs : a.eval s = .slice none 0 0) (v : Value) (hx : a.eval x = v) (ts : List WTxn) (hv : LogV w v ts) (hl : ts.length * 72 ≤ 140737488355328)
    (h : ∀ a' c' w', OwnL w' w.heap.size (.slice a' ts.length c') ts → w.grownBy w' none → K (a.put o.dst (.slice a' ts.length c')) w') :
    if Region.wanted o (yielded ops a.tmps) = true then Oper.wp Tryd.prog o a w K Q else E := by
  rw [if_pos hgd]
  obtain ⟨v', w', hr, h2, h3⟩ := run_copy_log w o.type v ts hv hl
  obtain ⟨a', c', rfl⟩ := ownl_slice h2
  unfold Oper.wp execOp
  simp only [ho, resolve, invoke, builtin, Sem.run_bind, Sem.run_pure, Result.andThen_ok, List.map_toArray, List.map_cons, List.map_nil, hs, hx, hr]
  exact h a' c' w' h2 h3
theorem step_app_one {w : World} {ops : Array Oper} {o : Oper} {a : Act} {K : Act → World → Prop} {Q : Exit → Act → World → Prop} {E : Prop} (hgd : Region.wanted o (yielded ops a.tmps) = true) (s x : Operand)
    (ho : o.op = .call { callee := .builtin .append, args := #[s, x], argTypes := #[22, 22] })
    (B : Nat) (a1 : Option Addr) (c1 : Nat) (ts : List WTxn) (hs : a.eval s = .slice a1 ts.length c1) (hown : OwnL w B (.slice a1 ts.length c1) ts)
    (q : Nat) (hx : a.eval x = .slice (some ⟨q, 0, none⟩) 1 1) (t : WTxn) (hnews : ∀ j u, (tcells t)[j]? = some u → w.cell? ((⟨q, 0, none⟩ : Addr).add j) = some u) (hl : (ts.length + 1) * 72 ≤ 140737488355328) (hB : B ≤ w.heap.size)
    (h : ∀ a' c' w', OwnL w' B (.slice a' (ts.length + 1) c') (ts ++ [t]) → w.grownBy w' (Value.slice a1 ts.length c1).ownBlock → K (a.put o.dst (.slice a' (ts.length + 1) c')) w') :
    if Region.wanted o (yielded ops a.tmps) = true then Oper.wp Tryd.prog o a w K Q else E := by
  rw [if_pos hgd]
  obtain ⟨i0, hi0, hz0, hz1, hz2⟩ := info_txn
  obtain ⟨v', w', hr, h2, h3, _⟩ := run_append_own (P := Tryd.prog) w B 22 o.type 29 i0 (txnV t0) 7 72 Tryd.underlying22 hi0 hz0 hz1 hz2 rfl (by decide) (.slice a1 ts.length c1) ts.length (cellsT ts) hown ⟨q, 0, none⟩ 1 1 (tcells t) rfl hnews (tcells_one t) (by simp only [maxLen]; omega) hl hB
  have h2' : OwnL w' B v' (ts ++ [t]) := OwnL.more h2
  obtain ⟨a', c', rfl⟩ := ownl_slice h2'
  have hlen : (ts ++ [t]).length = ts.length + 1 := by simp
  rw [hlen] at h2' hr
  unfold Oper.wp execOp
  simp only [ho, resolve, invoke, builtin, Sem.run_bind, Sem.run_pure, Result.andThen_ok, List.map_toArray, List.map_cons, List.map_nil, hs, hx, hr]
  exact h a' c' w' h2' h3
theorem tat_news {W : World} {g : Nat} {t : WTxn} (h : TAt W g t) (j : Nat) (u : Value) (hj : (tcells t)[j]? = some u) : W.cell? ((⟨g, 0, none⟩ : Addr).add j) = some u := by
  rw [Addr.add_lit]
  show World.cell? _ ⟨g, 0 + j, none⟩ = _
  rw [Nat.zero_add]
  unfold TAt at h
  simp only [World.cell?, h]
  have : (#[.int .i64 t.z, .int .i64 t.o, .int .i64 t.s, .string ⟨t.p.toArray⟩, .string ⟨t.d.toArray⟩, .int .i64 t.v, .int .i64 t.w] : Array Value)[j]? = (tcells t)[j]? := by simp [tcells]
  rw [this, hj]
  rfl
end Go.Proofs.YtpoblkionpgljaaDoor
