/-
  What aviaryref.Append answers: the walks.
  A copy of a log by append to nil: what it comes to, and as a step of a walk.
-/
import Derived.Test.YtpoblkionpgljaaDoorMG
import Derived.Test.YtpoblkionpgljaaDoorMI
import Derived.Test.YtpoblkionpgljaaDoorMF
import Derived.Laws.AppendOwnNone
namespace Go.Proofs.YtpoblkionpgljaaDoor
open Go.RowKit

set_option maxRecDepth 10000 in
set_option maxHeartbeats 1000000 in
theorem rapp_no (fs : List DF) (t : WTxn) (safe : Bool) (hg : gdE t ≠ 0) (hzb : t.z ≤ 9223372036854775807) (hp : t.p.length ≤ 1048576) (hd : t.d.length ≤ 140737488355328) : GivesD 16 (fun x => #[x, txnV t, .bool safe]) fs [] (gdE t) := by
  refine gives_no fun v w hv => ?_
  have C := fun W => rencode_no t W hzb hp hd hg
  have hne : (gdE t != 0) = true := by simpa using hg
  generalize gdE t = E at *
  obtain ⟨a, n, c, rfl⟩ := disk_slice hv
  obtain ⟨z, o, s, p, d, y, u⟩ := t
  unfold txnV at C ⊢
  clear hv hg hd hzb hp
  go_enter Tryd.func16, Tryd.ntmps16
  go_wp2_with fail
  have X := hide (ABox.start w (.slice a n c) (.cells #[.int .i64 z, .int .i64 o, .int .i64 s, .string ⟨p.toArray⟩, .string ⟨d.toArray⟩, .int .i64 y, .int .i64 u] 29))
  generalize ((w.alloc (.cells #[.slice a n c] 35)).alloc (.cells #[.int .i64 z, .int .i64 o, .int .i64 s, .string ⟨p.toArray⟩, .string ⟨d.toArray⟩, .int .i64 y, .int .i64 u] 29)).alloc (.cells #[.slice none 0 0] 35) = W0 at *
  refine (C _).mono ?_
  rintro e w1 ⟨rfl, hb1⟩
  have X1 := (unhide X).next hb1
  have cr := X1.r.c
  have fr := X1.r.f
  have HB := hide (X1.below.setCell (p := ⟨w.heap.size + 1 + 1, 0, none⟩) (by show w.heap.size ≤ w.heap.size + 1 + 1; omega) (.slice none 0 0))
  clear hb1 X C X1
  go_wp2_with fail
  exact bodyPost_ret (v := .tuple #[.agg #[.slice none 0 0], .int .i64 E]) (by simp [results, Tryd.results16, go_sem, cr]) rfl ⟨rfl, unhide HB⟩

set_option maxRecDepth 10000 in
set_option maxHeartbeats 1000000 in
theorem rapp_err (fs d1 : List DF) (t : WTxn) (safe : Bool) (E : Int) (hg : gdE t = 0) (W1 : GivesD 41 (fun x => #[x, .string ⟨logN.toArray⟩, .string ⟨(recL t).toArray⟩]) fs d1 E) (hE : E ≠ 0) : GivesD 16 (fun x => #[x, txnV t, .bool safe]) fs d1 E := by
  intro v w hv
  have C := fun W => rencode_yes t W hg
  have CW := fun W (h : Below w.heap.size w W) => W1 v W (hv.next h)
  have hne : (E != 0) = true := by simpa using hE
  simp only [show logN.toArray = #[108, 111, 103] from rfl] at CW
  generalize recL t = rb at *
  obtain ⟨a, n, c, rfl⟩ := disk_slice hv
  obtain ⟨z, o, s, p, d, y, u⟩ := t
  unfold txnV at C ⊢
  clear hv hg W1 hE
  go_enter Tryd.func16, Tryd.ntmps16
  go_wp2_with fail
  have X := hide (ABox.start w (.slice a n c) (.cells #[.int .i64 z, .int .i64 o, .int .i64 s, .string ⟨p.toArray⟩, .string ⟨d.toArray⟩, .int .i64 y, .int .i64 u] 29))
  generalize ((w.alloc (.cells #[.slice a n c] 35)).alloc (.cells #[.int .i64 z, .int .i64 o, .int .i64 s, .string ⟨p.toArray⟩, .string ⟨d.toArray⟩, .int .i64 y, .int .i64 u] 29)).alloc (.cells #[.slice none 0 0] 35) = W0 at *
  refine (C _).mono ?_
  rintro e w1 ⟨rfl, hb1⟩
  have X1 := (unhide X).next hb1
  have cd := X1.d.c
  have HX1 := hide X1
  clear hb1 X C X1
  go_wp2_with fail
  refine (CW _ (unhide HX1).below).mono ?_
  rintro e w2 ⟨a2, n2, c2, rfl, HD2, hb2⟩
  have X1b := (unhide HX1).next hb2
  have cd2 := X1b.d.c
  have fd2 := X1b.d.f
  have X2 := X1b.setd (.slice a2 n2 c2)
  have HD3 := hide (disk_box (unhide HD2) X1b.d (.slice a2 n2 c2))
  have cr2 := X2.r.c
  have fr2 := X2.r.f
  have ce2 := X2.d.c
  have HF := hide (And.intro (X2.below.setCell (p := ⟨w.heap.size + 1 + 1, 0, none⟩) (by show w.heap.size ≤ w.heap.size + 1 + 1; omega) (.slice a2 n2 c2)) (disk_box (unhide HD3) X2.r (.slice a2 n2 c2)))
  clear hb2 X2 X1b HX1 HD2 CW cd
  go_wp2_with fail
  exact bodyPost_ret (v := .tuple #[.agg #[.slice a2 n2 c2], .int .i64 E]) (by simp [results, Tryd.results16, go_sem, cr2]) rfl ⟨_, _, _, rfl, hide (unhide HF).2, (unhide HF).1⟩

set_option maxRecDepth 10000 in
set_option maxHeartbeats 1000000 in
theorem rapp_soft (fs d1 : List DF) (t : WTxn) (hg : gdE t = 0) (W1 : GivesD 41 (fun x => #[x, .string ⟨logN.toArray⟩, .string ⟨(recL t).toArray⟩]) fs d1 0) : GivesD 16 (fun x => #[x, txnV t, .bool false]) fs d1 0 := by
  intro v w hv
  have C := fun W => rencode_yes t W hg
  have CW := fun W (h : Below w.heap.size w W) => W1 v W (hv.next h)
  simp only [show logN.toArray = #[108, 111, 103] from rfl] at CW
  generalize recL t = rb at *
  obtain ⟨a, n, c, rfl⟩ := disk_slice hv
  obtain ⟨z, o, s, p, d, y, u⟩ := t
  unfold txnV at C ⊢
  clear hv hg W1
  go_enter Tryd.func16, Tryd.ntmps16
  go_wp2_with fail
  have X := hide (ABox.start w (.slice a n c) (.cells #[.int .i64 z, .int .i64 o, .int .i64 s, .string ⟨p.toArray⟩, .string ⟨d.toArray⟩, .int .i64 y, .int .i64 u] 29))
  generalize ((w.alloc (.cells #[.slice a n c] 35)).alloc (.cells #[.int .i64 z, .int .i64 o, .int .i64 s, .string ⟨p.toArray⟩, .string ⟨d.toArray⟩, .int .i64 y, .int .i64 u] 29)).alloc (.cells #[.slice none 0 0] 35) = W0 at *
  refine (C _).mono ?_
  rintro e w1 ⟨rfl, hb1⟩
  have X1 := (unhide X).next hb1
  have cd := X1.d.c
  have HX1 := hide X1
  clear hb1 X C X1
  go_wp2_with fail
  refine (CW _ (unhide HX1).below).mono ?_
  rintro e w2 ⟨a2, n2, c2, rfl, HD2, hb2⟩
  have X1b := (unhide HX1).next hb2
  have cd2 := X1b.d.c
  have fd2 := X1b.d.f
  have X2 := X1b.setd (.slice a2 n2 c2)
  have HD3 := hide (disk_box (unhide HD2) X1b.d (.slice a2 n2 c2))
  have cr2 := X2.r.c
  have fr2 := X2.r.f
  have ce2 := X2.d.c
  have HF := hide (And.intro (X2.below.setCell (p := ⟨w.heap.size + 1 + 1, 0, none⟩) (by show w.heap.size ≤ w.heap.size + 1 + 1; omega) (.slice a2 n2 c2)) (disk_box (unhide HD3) X2.r (.slice a2 n2 c2)))
  clear hb2 X2 X1b HX1 HD2 CW cd
  go_wp2_with fail
  exact bodyPost_ret (v := .tuple #[.agg #[.slice a2 n2 c2], .int .i64 0]) (by simp [results, Tryd.results16, go_sem, cr2]) rfl ⟨_, _, _, rfl, hide (unhide HF).2, (unhide HF).1⟩

set_option maxRecDepth 10000 in
set_option maxHeartbeats 1000000 in
theorem rapp_safe (fs d1 d2 : List DF) (t : WTxn) (E2 : Int) (hg : gdE t = 0) (W1 : GivesD 41 (fun x => #[x, .string ⟨logN.toArray⟩, .string ⟨(recL t).toArray⟩]) fs d1 0) (S1 : GivesD 42 (fun x => #[x, .string ⟨logN.toArray⟩]) d1 d2 E2) : GivesD 16 (fun x => #[x, txnV t, .bool true]) fs d2 E2 := by
  intro v w hv
  have C := fun W => rencode_yes t W hg
  have CW := fun W (h : Below w.heap.size w W) => W1 v W (hv.next h)
  have HCS := hide S1
  simp only [show logN.toArray = #[108, 111, 103] from rfl] at CW
  generalize recL t = rb at *
  simp only [show logN.toArray = #[108, 111, 103] from rfl] at HCS
  obtain ⟨a, n, c, rfl⟩ := disk_slice hv
  obtain ⟨z, o, s, p, d, y, u⟩ := t
  unfold txnV at C ⊢
  clear hv hg W1 S1
  go_enter Tryd.func16, Tryd.ntmps16
  go_wp2_with fail
  have X := hide (ABox.start w (.slice a n c) (.cells #[.int .i64 z, .int .i64 o, .int .i64 s, .string ⟨p.toArray⟩, .string ⟨d.toArray⟩, .int .i64 y, .int .i64 u] 29))
  generalize ((w.alloc (.cells #[.slice a n c] 35)).alloc (.cells #[.int .i64 z, .int .i64 o, .int .i64 s, .string ⟨p.toArray⟩, .string ⟨d.toArray⟩, .int .i64 y, .int .i64 u] 29)).alloc (.cells #[.slice none 0 0] 35) = W0 at *
  refine (C _).mono ?_
  rintro e w1 ⟨rfl, hb1⟩
  have X1 := (unhide X).next hb1
  have cd := X1.d.c
  have HX1 := hide X1
  clear hb1 X C X1
  go_wp2_with fail
  refine (CW _ (unhide HX1).below).mono ?_
  rintro e w2 ⟨a2, n2, c2, rfl, HD2, hb2⟩
  have X1b := (unhide HX1).next hb2
  have cd2 := X1b.d.c
  have fd2 := X1b.d.f
  have X2 := X1b.setd (.slice a2 n2 c2)
  have HD3 := hide (disk_box (unhide HD2) X1b.d (.slice a2 n2 c2))
  have cr2 := X2.r.c
  have fr2 := X2.r.f
  have ce2 := X2.d.c
  have HX2 := hide X2
  clear hb2 X2 X1b HX1 HD2 CW cd
  go_wp2_with fail
  refine (unhide HCS _ _ (unhide HD3)).mono ?_
  rintro e w4 ⟨a4, n4, c4, rfl, HD4, hb4⟩
  have X4 := (unhide HX2).next hb4
  have cr4 := X4.r.c
  have fr4 := X4.r.f
  have HF := hide (And.intro (X4.below.setCell (p := ⟨w.heap.size + 1 + 1, 0, none⟩) (by show w.heap.size ≤ w.heap.size + 1 + 1; omega) (.slice a4 n4 c4)) (disk_box (unhide HD4) X4.r (.slice a4 n4 c4)))
  clear hb4 X4 HX2 HD3 HD4 HCS
  go_wp2_with fail
  exact bodyPost_ret (v := .tuple #[.agg #[.slice a4 n4 c4], .int .i64 E2]) (by simp [results, Tryd.results16, go_sem, cr4]) rfl ⟨_, _, _, rfl, hide (unhide HF).2, (unhide HF).1⟩
end Go.Proofs.YtpoblkionpgljaaDoor

namespace Go.Proofs.YtpoblkionpgljaaDoor
open Go.RowKit

theorem run_copy_log (W : World) (ty : TypeId) (v : Value) (ts : List WTxn) (hv : LogV W v ts) (hl : ts.length * 72 ≤ 140737488355328) :
    ∃ v' w', (Builtin.append_ #[22, 22] ty #[.slice none 0 0, v]).run Tryd.prog W = .ok v' w' ∧ OwnL w' W.heap.size v' ts ∧ W.grownBy w' none := by
  obtain ⟨i0, hi0, hz0, hz1, hz2⟩ := info_txn
  have main : ∀ (a : Addr) (cap : Nat), v = .slice (some a) ts.length cap → (∀ j u, (cellsT ts)[j]? = some u → W.cell? (a.add j) = some u) →
      ∃ v' w', (Builtin.append_ #[22, 22] ty #[.slice none 0 0, v]).run Tryd.prog W = .ok v' w' ∧ OwnL w' W.heap.size v' ts ∧ W.grownBy w' none := by
    intro a cap e hc
    subst e
    obtain ⟨v', w', h1, h2, h3, _⟩ := run_append_own (P := Tryd.prog) W W.heap.size 22 ty 29 i0 (txnV t0) 7 72 Tryd.underlying22 hi0 hz0 hz1 hz2 rfl (by decide) (.slice none 0 0) 0 [] (World.ownsRow_nil _ _ _ _) a ts.length cap (cellsT ts) (cellsT_length ts) hc
      (fun u hu => by
        obtain ⟨j, hj⟩ := List.getElem?_of_mem hu
        have hlt := (List.getElem?_eq_some_iff.1 hj).1
        rw [cellsT_length] at hlt
        have hg := cellsT_get ts (j / 7) _ (List.getElem?_eq_getElem (by omega)) (j % 7) (by omega)
        rw [show j / 7 * 7 + j % 7 = j by omega, hj] at hg
        exact tcells_one _ u (List.mem_of_getElem? hg.symm))
      (by simp only [maxLen]; omega) (by omega) (Nat.le_refl _)
    refine ⟨v', w', h1, ?_, h3⟩
    simpa [OwnL] using h2
  rcases hv with ⟨a, cap, rfl, rfl, _⟩ | ⟨b, off, cap, rfl, _, _, _, _, hr⟩
  · cases a with
    | none =>
      refine ⟨.slice none 0 0, W, ?_, OwnL.nil _ _, ⟨rfl, rfl, rfl, Nat.le_refl _, fun _ _ _ => rfl⟩⟩
      simp [Builtin.append_, run_underlying Tryd.underlying22, sizeOf, typeInfo, hi0, Builtin.lenOf, Builtin.firstCells]
    | some a => exact main a cap rfl (fun j u h => by simp [cellsT] at h)
  · exact main ⟨b, off, none⟩ cap rfl (fun j u h => by rw [Addr.add_lit]; exact hr j u h)

theorem wpList_copy_log {w : World} {ops : Array Oper} {rest : List Oper} {o : Oper} {a : Act} {Q : Exit → Act → World → Prop} (hgd : Region.wanted o (yielded ops a.tmps) = true) (s x : Operand)
    (ho : o.op = .call { callee := .builtin .append, args := #[s, x], argTypes := #[22, 22] })
    (hs : a.eval s = .slice none 0 0) (v : Value) (hx : a.eval x = v) (ts : List WTxn) (hv : LogV w v ts) (hl : ts.length * 72 ≤ 140737488355328)
    (h : ∀ v' w', OwnL w' w.heap.size v' ts → w.grownBy w' none → wpList Tryd.prog ops Q rest (a.put o.dst v') w') : wpList Tryd.prog ops Q (o :: rest) a w := by
  obtain ⟨v', w', hr, h2, h3⟩ := run_copy_log w o.type v ts hv hl
  refine wpList_step fun K hK => ?_
  rw [if_pos hgd]
  unfold Oper.wp execOp
  simp only [ho, resolve, invoke, builtin, Sem.run_bind, Sem.run_pure, Result.andThen_ok, List.map_toArray, List.map_cons, List.map_nil, hs, hx, hr]
  exact hK _ _ (h v' w' h2 h3)
end Go.Proofs.YtpoblkionpgljaaDoor
