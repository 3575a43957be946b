/-
  What aviaryref's without, KeepEntry, Look and Tell answer: the walks.
-/
import Derived.Test.YtdefdbejaabpdaaQEC
namespace Go.Proofs.Ytdefdbejaabpdaa
open Go.RowKit

/- append of one entry -/
theorem wpList_appC {w : World} {ops : Array Oper} {rest : List Oper} {o : Oper} {a : Act} {Q : Exit → Act → World → Prop} (hgd : o.guard = none) (s x : Operand)
    (ho : o.op = .call { callee := .builtin .append, args := #[s, x], argTypes := #[22, 22] })
    (B : Nat) (v : Value) (ls : List En) (hs : a.eval s = v) (hown : OwnS w B v ls) (hB : B ≤ w.heap.size) (q : Nat) (hx : a.eval x = .slice (some ⟨q, 0, none⟩) 1 1) (t : En) (hnews : OneR w q t) (hl : (ls.length + 1) * 40 ≤ 140737488355328)
    (h : ∀ a' c' w', OwnS w' B (.slice a' (ls.length + 1) c') (ls ++ [t]) → w.grownBy w' v.ownBlock → wpList Try.prog ops Q rest (a.put o.dst (.slice a' (ls.length + 1) c')) w') : wpList Try.prog ops Q (o :: rest) a w := by
  refine wpList_plain hgd fun K hK => ?_
  obtain ⟨i0, hi0, hz0, hz1, hz2⟩ := cinfo
  obtain ⟨v', w', hr, h2, h3, _⟩ := run_append_own (P := Try.prog) w B 22 o.type 36 i0 _ 3 40 Try.underlying22 hi0 hz0 hz1 hz2 rfl (by decide) v ls.length (cellsL ls) hown.row ⟨q, 0, none⟩ 1 1 (encells t) rfl (one_news hnews) (Lay.one t) (by simp only [maxLen]; omega) hl hB
  have h2' : OwnS w' B v' (ls ++ [t]) := OwnS.of_row (by rw [List.length_append, cellsL_snoc]; exact h2)
  obtain ⟨a', c', rfl, _⟩ := h2'.slice
  have hlen : (ls ++ [t]).length = ls.length + 1 := by simp
  rw [hlen] at h2' hr
  unfold Oper.wp execOp
  simp only [ho, resolve, invoke, builtin, Sem.run_bind, Sem.run_pure, Result.andThen_ok, List.map_toArray, List.map_cons, List.map_nil, hs, hx, hr]
  exact hK _ _ (h a' c' w' h2' h3)

def woE (es : List En) (p : List UInt8) : List En := es.filter fun e => !decide (e.p = p)
theorem wo_yes {es : List En} {p : List UInt8} {k : Nat} {x : En} (h : es[k]? = some x) (hp : x.p ≠ p) : woE (es.take (k + 1)) p = woE (es.take k) p ++ [x] := by
  rw [snoc_take h]; simp [woE, hp]
theorem wo_no {es : List En} {p : List UInt8} {k : Nat} {x : En} (h : es[k]? = some x) (hp : x.p = p) : woE (es.take (k + 1)) p = woE (es.take k) p := by
  rw [snoc_take h]; simp [woE, hp]
theorem wo_len (es : List En) (p : List UInt8) : (woE es p).length ≤ es.length := List.length_filter_le _ _

set_option maxRecDepth 10000 in
set_option maxHeartbeats 4000000 in
theorem rwithout_any (v : Value) (es : List En) (p : List UInt8) (w : World) (hv : SeqV w v es) (hl : (es.length + 1) * 40 ≤ 140737488355328) :
    Calls Try.prog 27 #[v, .string ⟨p.toArray⟩] w fun e w' => ∃ v', e = .returned v' ∧ OwnS w' w.heap.size v' (woE es p) ∧ Below w.heap.size w w' := by
  have KR := hide (crow hv)
  obtain ⟨va, vc, rfl⟩ := seq_slice hv
  clear hv
  go_enter Try.func27, Try.ntmps27
  go_wp2_with fail
  go_loopg [5, 10] es.length (fun kx s5 s10 wr => ∃ (k n : Nat) (a : Option Addr) (c : Nat), s10 = .int .i64 k ∧ s5 = .slice a n c ∧ Hid ((woE (es.take k) p).length = n) ∧ k ≤ es.length ∧ es.length - k ≤ kx ∧ Hid (OwnS wr w.heap.size (.slice a n c) (woE (es.take k) p)) ∧ Hid (Below w.heap.size w wr))
  case atStart => exact ⟨0, 0, none, 0, rfl, rfl, hide rfl, Nat.zero_le _, Nat.le_refl _, hide (.inl ⟨rfl, rfl⟩), hide (Below.refl _ _)⟩
  case round =>
    obtain ⟨k, n, a, c, rfl, rfl, hn, hk, hg, hO, hB⟩ := hrel
    by_cases hlt : k < es.length
    · obtain ⟨x, hx⟩ : ∃ x, es[k]? = some x := ⟨_, List.getElem?_eq_getElem hlt⟩
      obtain ⟨b, off, cap, he, hb, q⟩ := unhide KR wr (unhide hB) k x hx
      simp only [Value.slice.injEq] at he
      obtain ⟨rfl, _, rfl⟩ := he
      have d0 := q.en0 hx
      have d1 := q.en1 hx
      have d2 := q.en2 hx
      have hbw : b < wr.heap.size := Nat.lt_of_lt_of_le hb (unhide hB).size
      have HB1 := hide (nnext (unhide hB) (allocB wr (.cells #[.string ⟨x.p.toArray⟩, .string ⟨x.d.toArray⟩, .bool x.t] 36)))
      have HO1 := hide ((unhide hO).next (allocB wr (.cells #[.string ⟨x.p.toArray⟩, .string ⟨x.d.toArray⟩, .bool x.t] 36)))
      have hnl : n ≤ k := by rw [← unhide hn]; exact Nat.le_trans (wo_len _ _) (by simp; omega)
      by_cases h1 : x.p = p
      · have hsb : (x.p == p) = true := by simpa using h1
        have hsb2 : (x.p != p) = false := by simp [h1]
        have HE := hide (wo_no hx h1)
        clear q hx h1
        go_wp2_with fail
        go_roundg (es.length - (k + 1))
        case measure => omega
        case rel => exact ⟨k + 1, n, a, c, rfl, rfl, by rw [unhide HE]; exact hn, by omega, Nat.le_refl _, by rw [unhide HE]; exact HO1, HB1⟩
      · have hsb : (x.p == p) = false := by simpa using h1
        have hsb2 : (x.p != p) = true := by simp [h1]
        have HE := hide (wo_yes hx h1)
        clear q hx h1
        have HO2 := hide ((unhide HO1).next (allocB _ (.cells #[.string ⟨x.p.toArray⟩, .string ⟨x.d.toArray⟩, .bool x.t] 36)))
        have HB2 := hide (nnext (unhide HB1) (allocB _ (.cells #[.string ⟨x.p.toArray⟩, .string ⟨x.d.toArray⟩, .bool x.t] 36)))
        have HN := one_newC (wr.alloc (.cells #[.string ⟨x.p.toArray⟩, .string ⟨x.d.toArray⟩, .bool x.t] 36)) x
        rw [show (wr.alloc (.cells #[.string ⟨x.p.toArray⟩, .string ⟨x.d.toArray⟩, .bool x.t] 36)).heap.size = wr.heap.size + 1 by simp] at HN
        have HN2 := hide HN
        have HA := hide (unhide HO1).above
        clear hO HO1 HN
        go_wp2_with (at_builtin; refine wpList_appC (by kernel_rfl) _ _ rfl w.heap.size (.slice a n c) (woE (es.take k) p) rfl (unhide HO2) (unhide HB2).size (wr.heap.size + 1) rfl x (unhide HN2) (by rw [unhide hn]; omega) ?_)
        intro a2 c2 w1 ho2 hg2
        rw [unhide hn] at ho2 ⊢
        have HO3 := hide ho2
        have HB3 := hide ((unhide HB2).grown hg2 (unhide HB2).size (unhide HA))
        clear ho2 hg2
        go_wp2_with fail
        go_roundg (es.length - (k + 1))
        case measure => omega
        case rel => exact ⟨k + 1, n + 1, a2, c2, rfl, rfl, hide (by rw [unhide HE, List.length_append, unhide hn]; rfl), by omega, Nat.le_refl _, by rw [unhide HE]; exact HO3, HB3⟩
    · obtain rfl : k = es.length := by omega
      rw [List.take_length] at hO
      go_wp2_with fail
      go_ret
      exact ⟨_, rfl, unhide hO, unhide hB⟩

/- aviaryref.Look -/
theorem look_none {es : List En} {p : List UInt8} (h : ∀ (j : Nat) (x : En), es[j]? = some x → x.p ≠ p) : lookE es p = none := by
  unfold lookE
  refine List.find?_eq_none.2 fun x hx => ?_
  obtain ⟨j, hj, rfl⟩ := List.getElem_of_mem hx
  simp [h j _ (List.getElem?_eq_getElem hj)]
theorem look_at {es : List En} {p : List UInt8} {k : Nat} {x : En} (h : es[k]? = some x) (hp : x.p = p) (hb : ∀ (j : Nat) (y : En), j < k → es[j]? = some y → y.p ≠ p) : lookE es p = some x := by
  have e : es = es.take k ++ x :: es.drop (k + 1) := by
    obtain ⟨h1, h2⟩ := List.getElem?_eq_some_iff.1 h
    rw [← h2]; simp
  unfold lookE
  rw [e, List.find?_append, List.find?_eq_none.2 ?_]
  · simp [hp]
  · intro y hy
    obtain ⟨j, hj, rfl⟩ := List.getElem_of_mem hy
    have hj' : j < k := by simp at hj; omega
    have := hb j _ hj' (List.getElem?_eq_getElem (by simp at hj; omega))
    simpa using this
set_option maxRecDepth 10000 in
set_option maxHeartbeats 2000000 in
theorem rlook_any (s z : Int) (v : Value) (es : List En) (p : List UInt8) (w : World) (hv : SeqV w v es) (hl : es.length ≤ 140737488355328) :
    Calls Try.prog 18 #[clV s z v, .string ⟨p.toArray⟩] w fun e w' => e = .returned (.tuple #[enV (entE (lookE es p)), .bool (lookE es p).isSome]) ∧ Below w.heap.size w w' := by
  have KR := hide (crow hv)
  obtain ⟨va, vc, rfl⟩ := seq_slice hv
  clear hv
  unfold clV enV
  have B0 : Below w.heap.size w ((w.alloc (.cells #[.int .i64 s, .int .i64 z, .slice va es.length vc] 24)).alloc (.cells #[.string ⟨#[]⟩, .string ⟨#[]⟩, .bool false] 36)) := nnext (allocB _ _) (allocB _ _)
  have X2 := one_newC (w.alloc (.cells #[.int .i64 s, .int .i64 z, .slice va es.length vc] 24)) noneE
  rw [show (w.alloc (.cells #[.int .i64 s, .int .i64 z, .slice va es.length vc] 24)).heap.size = w.heap.size + 1 by simp] at X2
  have HB0 := hide B0
  have HX2 : Hid (OneR ((w.alloc (.cells #[.int .i64 s, .int .i64 z, .slice va es.length vc] 24)).alloc (.cells #[.string ⟨#[]⟩, .string ⟨#[]⟩, .bool false] 36)) (w.heap.size + 1) noneE) := hide X2
  clear B0 X2
  obtain ⟨le, hle⟩ : ∃ o, lookE es p = o := ⟨_, rfl⟩
  have HLE := hide hle
  rw [hle]
  clear hle
  go_enter Try.func18, Try.ntmps18
  go_wp2_with fail
  generalize (w.alloc (.cells #[.int .i64 s, .int .i64 z, .slice va es.length vc] 24)).alloc (.cells #[.string ⟨#[]⟩, .string ⟨#[]⟩, .bool false] 36) = W0 at *
  go_loopg [11] es.length (fun kx s11 wr => ∃ k : Nat, s11 = .int .i64 k ∧ k ≤ es.length ∧ es.length - k ≤ kx ∧ Hid (∀ (j : Nat) (x : En), j < k → es[j]? = some x → x.p ≠ p) ∧ Hid (Below W0.heap.size W0 wr))
  case atStart => exact ⟨0, rfl, Nat.zero_le _, Nat.le_refl _, hide (fun j x h => absurd h (Nat.not_lt_zero _)), hide (Below.refl _ _)⟩
  case round =>
    obtain ⟨k, rfl, hk, hg, hN, hB⟩ := hrel
    have HBw := hide (nnext (unhide HB0) (unhide hB))
    by_cases hlt : k < es.length
    · obtain ⟨x, hx⟩ : ∃ x, es[k]? = some x := ⟨_, List.getElem?_eq_getElem hlt⟩
      obtain ⟨b, off, cap, he, hb, q⟩ := unhide KR wr (unhide HBw) k x hx
      simp only [Value.slice.injEq] at he
      obtain ⟨rfl, _, rfl⟩ := he
      have d0 := q.en0 hx
      have d1 := q.en1 hx
      have d2 := q.en2 hx
      have hbw : b < wr.heap.size := Nat.lt_of_lt_of_le hb (unhide HBw).size
      by_cases h1 : x.p = p
      · have hsb : (x.p == p) = true := by simpa using h1
        have HL : Hid (le = some x) := hide ((unhide HLE).symm.trans (look_at hx h1 (unhide hN)))
        have X3 := ((unhide HX2).keptz (unhide hB) (unhide HX2).ltz).keptz (allocB wr (.cells #[.string ⟨x.p.toArray⟩, .string ⟨x.d.toArray⟩, .bool x.t] 36)) (Nat.lt_of_lt_of_le (unhide HX2).ltz (unhide hB).size)
        have r0 := X3.e0
        have r1 := X3.e1
        have r2 := X3.e2
        have f0 := X3.frz 0
        have f1 := X3.frz 1
        have f2 := X3.frz 2
        have hlt2 := X3.ltz
        have HB2 := hide (nnext (unhide HBw) (allocB wr (.cells #[.string ⟨x.p.toArray⟩, .string ⟨x.d.toArray⟩, .bool x.t] 36)))
        have N1 := one_newC wr x
        have n0 := N1.e0
        have n1 := N1.e1
        have n2 := N1.e2
        have hwk : w.heap.size + 1 < wr.heap.size := Nat.lt_of_lt_of_le (unhide HX2).ltz (unhide hB).size
        clear q hx h1 X3 N1
        go_upto_region 5 with fail
        generalize wr.alloc (.cells #[.string ⟨x.p.toArray⟩, .string ⟨x.d.toArray⟩, .bool x.t] 36) = W1 at *
        go_wp2_with fail
        refine bodyPost_ret (v := .tuple #[.agg #[.string ⟨x.p.toArray⟩, .string ⟨x.d.toArray⟩, .bool x.t], .bool true]) (by simp [results, Try.results18, go_sem, r0, r1, r2]) rfl ⟨by rw [unhide HL]; rfl, ?_⟩
        exact (((unhide HB2).setCell (by simp) _).setCell (by simp) _).setCell (by simp) _
      · have hsb : (x.p == p) = false := by simpa using h1
        have HN2 : Hid (∀ (j : Nat) (x : En), j < k + 1 → es[j]? = some x → x.p ≠ p) := hide fun j y hj hy => by
          by_cases e : j = k
          · subst e; rw [hx] at hy; cases hy; exact h1
          · exact unhide hN j y (by omega) hy
        have HB2 := hide (nnext (unhide hB) (allocB wr (.cells #[.string ⟨x.p.toArray⟩, .string ⟨x.d.toArray⟩, .bool x.t] 36)))
        clear q hx h1
        go_wp2_with fail
        go_roundg (es.length - (k + 1))
        case measure => omega
        case rel => exact ⟨k + 1, rfl, by omega, Nat.le_refl _, HN2, HB2⟩
    · obtain rfl : k = es.length := by omega
      have HL : Hid (le = none) := hide ((unhide HLE).symm.trans (look_none fun j x hx => unhide hN j x (List.getElem?_eq_some_iff.1 hx).1 hx))
      have X3 := (unhide HX2).keptz (unhide hB) (unhide HX2).ltz
      have r0 := X3.e0
      have r1 := X3.e1
      have r2 := X3.e2
      have f0 := X3.frz 0
      have f1 := X3.frz 1
      have f2 := X3.frz 2
      simp only [noneE] at r0 r1 r2
      clear X3
      go_wp2_with fail
      refine bodyPost_ret (v := .tuple #[.agg #[.string ⟨[].toArray⟩, .string ⟨[].toArray⟩, .bool false], .bool false]) (by simp [results, Try.results18, go_sem, r0, r1, r2]) rfl ⟨by rw [unhide HL]; rfl, ?_⟩
      exact (((unhide HBw).setCell (by simp) _).setCell (by simp) _).setCell (by simp) _
end Go.Proofs.Ytdefdbejaabpdaa
