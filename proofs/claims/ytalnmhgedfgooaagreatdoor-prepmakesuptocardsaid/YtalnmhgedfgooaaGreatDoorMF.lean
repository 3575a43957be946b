/-
  What growth's set does: the walks.
  What slices.Clone of numbers and tree.begun do: the walks.
  What growth's open, owned and close do: the walks.
  What growth's close does: the walk.
  What growth's close does: the walk.
  What growth's create does: the walks.
-/
import Derived.Test.YtalnmhgedfgooaaGreatDoorME
import Derived.Test.YtalnmhgedfgooaaGreatDoorMC
namespace Go.Proofs.YtalnmhgedfgooaaGreatDoor
open Go.RowKit

set_option maxRecDepth 20000 in
set_option maxHeartbeats 2000000 in
theorem set_gap (F : Nat → Prop) (b : Nat) (z : Int) (vn vs ve : Value) (ns A B : List Nd) (ss : List Int) (es : List Ev) (x : WTxn) (w : World)
    (h : Grow w F b z vn vs ve ns ss es) (G : NGap ns A B x.p) (hl : ns.length ≤ 400) :
    Calls Tryz.prog 63 #[.pointer (some ⟨b, 0, none⟩), txnV x] w fun e w' => e = .returned (.int .i64 7) ∧ Touch F w w' := by
  obtain ⟨xz, xo, xs, xp, xd, xv, xw⟩ := x
  simp only at G
  have CF := fun W (hW : Below w.heap.size w W) => nfind_gap vn ns A B xp W (h.n.next hW).seq (by omega) G
  have c1 := h.c1
  have hbl := h.lt
  obtain ⟨na, nc, rfl, _⟩ := h.n.slice
  clear h G
  unfold txnV
  go_enter Tryz.func63, Tryz.ntmps63
  go_wp2_with fail
  go_region_law (first
    | (go_simp; refine (CF _ (by first | exact ((Below.refl w.heap.size w).alloc (Nat.le_refl _) _).drew | exact (Below.refl w.heap.size w).alloc (Nat.le_refl _) _)).mono ?_; rintro e w1 ⟨rfl, hb1⟩; have HB1 : Hid (Below w.heap.size w w1) := (by first | exact nbox_then (nbelow_drew hb1) | exact nbox_then hb1); clear hb1))
  all_goals go_wp2_with fail
  all_goals go_ret
  all_goals exact ⟨rfl, Touch.of_below (unhide HB1)⟩

set_option maxRecDepth 20000 in
set_option maxHeartbeats 4000000 in
theorem set_ok (F : Nat → Prop) (b : Nat) (z : Int) (vn vs ve : Value) (ns A B : List Nd) (n : Nd) (ss : List Int) (es : List Ev) (x : WTxn) (w : World)
    (h : Grow w F b z vn vs ve ns ss es) (hF : ∀ k, w.heap.size ≤ k → F k) (T : NThere ns A n B x.p) (hl : ns.length ≤ 400) (hv : 0 ≤ n.v ∧ n.v ≤ 2147483647) (hp : x.p.length ≤ 140737488355328) (hd : x.d.length ≤ 140737488355328) (hes : es.length ≤ 99999) (hx : x.v = n.v + 1) :
    Calls Tryz.prog 63 #[.pointer (some ⟨b, 0, none⟩), txnV x] w fun e w' =>
      e = .returned (.int .i64 0) ∧ ∃ ve', Grow w' F b z vn vs ve' (A ++ ⟨n.p, x.d, n.c, x.z, n.q, x.v, n.k, n.o, n.n⟩ :: B) ss (es ++ [⟨3, x.p⟩]) ∧ Touch F w w' := by
  obtain ⟨xz, xo, xs, xp, xd, xv, xw⟩ := x
  simp only at T hp hd hx ⊢
  have hxb : (xv != n.v + 1) = false := by simpa using hx
  clear hx
  have CF := fun W (hW : Below w.heap.size w W) => nfind_there vn ns A B n xp W (h.n.next hW).seq (by omega) T
  have CC := fun W => nclone_any xd W (by omega)
  obtain ⟨g, cap, rfl, hr, hgb, hFg⟩ := h.nrow (by rw [T.eq]; simp)
  have hgl := hr.lt
  have c1 := h.c1
  have hbl := h.lt
  have HG := hide h
  have HE := hide T.eq
  have HF := hide hF
  have hlt : A.length < ns.length := by rw [T.eq]; simp
  have hv1 := hv.1
  have hv2 := hv.2
  have KX : ∀ w1, Below (w.alloc (.cells #[.int .i64 xz, .int .i64 xo, .int .i64 xs, .string ⟨xp.toArray⟩, .string ⟨xd.toArray⟩, .int .i64 xv, .int .i64 xw] 29)).heap.size (w.alloc (.cells #[.int .i64 xz, .int .i64 xo, .int .i64 xs, .string ⟨xp.toArray⟩, .string ⟨xd.toArray⟩, .int .i64 xv, .int .i64 xw] 29)) w1 → TAt w1 w.heap.size ⟨xz, xo, xs, xp, xd, xv, xw⟩ := fun w1 h1 => (TAt.new w ⟨xz, xo, xs, xp, xd, xv, xw⟩).next h1
  have HKX := hide KX
  clear h hr T hF KX
  unfold txnV
  go_enter Tryz.func63, Tryz.ntmps63
  go_wp2_with fail
  go_region_law (first
    | (go_simp; refine (CF _ (by first | exact ((Below.refl w.heap.size w).alloc (Nat.le_refl _) _).drew | exact (Below.refl w.heap.size w).alloc (Nat.le_refl _) _)).mono ?_; rintro e w1 ⟨rfl, hb1⟩; have HBd := hide hb1; clear hb1))
  all_goals
    have HB0 := hide (nbelow_drew (unhide HBd))
    clear CF
    have HB1 := hide (nbox_then (unhide HB0))
    have tx := unhide HKX w1 (unhide HB0)
    have t0 := tx.c0
    have t3 := tx.c3
    have t4 := tx.c4
    have t5 := tx.c5
    have HTX := hide tx
    have g1 := (unhide HG).next (unhide HB1)
    have d1 := g1.c1
    have hsz1 := (unhide HB1).size
    have hszx := tx.lt
    obtain ⟨g', cap', he, hr, _, _⟩ := g1.nrow (by rw [unhide HE]; simp)
    simp only [Value.slice.injEq, Option.some.injEq, Addr.mk.injEq, and_true] at he
    obtain ⟨rfl, _, rfl⟩ := he
    have at' : ns[A.length]? = some n := by rw [unhide HE]; exact nat_at A n B
    have r5 := hr.row.n5 at'
    rw [Nat.zero_add] at r5
    have HG1 := hide g1
    clear g1 hr at' tx
    go_wp2_with fail
    go_region
    go_wp2_with fail
    refine (CC _).mono ?_
    rintro e w2 ⟨rfl, hb2⟩
    have hb2' := nbelow_drew hb2
    have g2 := (unhide HG1).next hb2'
    obtain ⟨g', cap', he, hr, _, _⟩ := g2.nrow (by rw [unhide HE]; simp)
    simp only [Value.slice.injEq, Option.some.injEq, Addr.mk.injEq, and_true] at he
    obtain ⟨rfl, _, rfl⟩ := he
    have at' : ns[A.length]? = some n := by rw [unhide HE]; exact nat_at A n B
    have r1 := hr.row.n1 at'
    have r3 := hr.row.n3 at'
    have r5' := hr.row.n5 at'
    have z1 := hr.frozen (A.length * 9 + 1)
    have z3 := hr.frozen (A.length * 9 + 3)
    have z5 := hr.frozen (A.length * 9 + 5)
    rw [Nat.zero_add] at r1 r3 r5'
    have tx2 := (unhide HTX).next hb2'
    have y0 := tx2.c0
    have y3 := tx2.c3
    have y5 := tx2.c5
    have hne : g ≠ w.heap.size := by omega
    have hne' : w.heap.size ≠ g := by omega
    have g4 : Grow (((w2.setCell ⟨g, A.length * 9 + 1, none⟩ (.string ⟨xd.toArray⟩)).setCell ⟨g, A.length * 9 + 5, none⟩ (.int .i64 xv)).setCell ⟨g, A.length * 9 + 3, none⟩ (.int .i64 xz)) F b z (.slice (some ⟨g, 0, none⟩) ns.length cap) vs ve (A ++ ⟨n.p, xd, n.c, xz, n.q, xv, n.k, n.o, n.n⟩ :: B) ss es := by
      have e0 := g2
      rw [unhide HE] at e0
      have e1 := e0.put (m := ⟨n.p, xd, n.c, n.m, n.q, n.v, n.k, n.o, n.n⟩) (c := 1) (by omega) (v := .string ⟨xd.toArray⟩) rfl
      have e2 := e1.put (m := ⟨n.p, xd, n.c, n.m, n.q, xv, n.k, n.o, n.n⟩) (c := 5) (by omega) (v := .int .i64 xv) rfl
      have e3 := e2.put (m := ⟨n.p, xd, n.c, xz, n.q, xv, n.k, n.o, n.n⟩) (c := 3) (by omega) (v := .int .i64 xz) rfl
      rw [unhide HE]
      exact e3
    have T4 : Touch F w (((w2.setCell ⟨g, A.length * 9 + 1, none⟩ (.string ⟨xd.toArray⟩)).setCell ⟨g, A.length * 9 + 5, none⟩ (.int .i64 xv)).setCell ⟨g, A.length * 9 + 3, none⟩ (.int .i64 xz)) :=
      ((((Touch.of_below (unhide HB1)).trans (Touch.of_below hb2')).trans (Touch.set hFg _)).trans (Touch.set hFg _)).trans (Touch.set hFg _)
    have HG4 := hide g4
    have HT4 := hide T4
    have CT := fun W (hW : Grow W F b z (.slice (some ⟨g, 0, none⟩) ns.length cap) vs ve (A ++ ⟨n.p, xd, n.c, xz, n.q, xv, n.k, n.o, n.n⟩ :: B) ss es) (hs : w.heap.size ≤ W.heap.size) => tell_any F b z _ vs ve _ ss es 3 xp W hW (fun k hk => unhide HF k (by omega)) hp (by omega)
    have HCT := hide CT
    clear CC g2 hr hb2 hb2' at' g4 T4 CT tx2 t0 t3 t4 t5 d1 r5
    go_wp2_with fail
    refine (unhide HCT _ (unhide HG4) (unhide HT4).size).mono ?_
    rintro e w5 ⟨rfl, ve', g5, t5⟩
    have HG5 := hide g5
    have HT5 := hide ((unhide HT4).trans t5)
    clear g5 t5
    go_wp2_with fail
    go_ret
    exact ⟨rfl, ve', unhide HG5, unhide HT5⟩

set_option maxRecDepth 20000 in
set_option maxHeartbeats 4000000 in
theorem set_ver (F : Nat → Prop) (b : Nat) (z : Int) (vn vs ve : Value) (ns A B : List Nd) (n : Nd) (ss : List Int) (es : List Ev) (x : WTxn) (w : World)
    (h : Grow w F b z vn vs ve ns ss es) (hF : ∀ k, w.heap.size ≤ k → F k) (T : NThere ns A n B x.p) (hl : ns.length ≤ 400) (hv : 0 ≤ n.v ∧ n.v ≤ 2147483647) (hp : x.p.length ≤ 140737488355328) (hd : x.d.length ≤ 140737488355328) (_hes : es.length ≤ 99999) (hx : x.v ≠ n.v + 1) :
    Calls Tryz.prog 63 #[.pointer (some ⟨b, 0, none⟩), txnV x] w fun e w' =>
      e = .returned (.int .i64 9) ∧ Touch F w w' := by
  obtain ⟨xz, xo, xs, xp, xd, xv, xw⟩ := x
  simp only at T hp hd hx ⊢
  have hxb : (xv != n.v + 1) = true := by simpa using hx
  clear hx
  have CF := fun W (hW : Below w.heap.size w W) => nfind_there vn ns A B n xp W (h.n.next hW).seq (by omega) T
  have CC := fun W => nclone_any xd W (by omega)
  obtain ⟨g, cap, rfl, hr, hgb, hFg⟩ := h.nrow (by rw [T.eq]; simp)
  have hgl := hr.lt
  have c1 := h.c1
  have hbl := h.lt
  have HG := hide h
  have HE := hide T.eq
  have HF := hide hF
  have hlt : A.length < ns.length := by rw [T.eq]; simp
  have hv1 := hv.1
  have hv2 := hv.2
  have KX : ∀ w1, Below (w.alloc (.cells #[.int .i64 xz, .int .i64 xo, .int .i64 xs, .string ⟨xp.toArray⟩, .string ⟨xd.toArray⟩, .int .i64 xv, .int .i64 xw] 29)).heap.size (w.alloc (.cells #[.int .i64 xz, .int .i64 xo, .int .i64 xs, .string ⟨xp.toArray⟩, .string ⟨xd.toArray⟩, .int .i64 xv, .int .i64 xw] 29)) w1 → TAt w1 w.heap.size ⟨xz, xo, xs, xp, xd, xv, xw⟩ := fun w1 h1 => (TAt.new w ⟨xz, xo, xs, xp, xd, xv, xw⟩).next h1
  have HKX := hide KX
  clear h hr T hF KX
  unfold txnV
  go_enter Tryz.func63, Tryz.ntmps63
  go_wp2_with fail
  go_region_law (first
    | (go_simp; refine (CF _ (by first | exact ((Below.refl w.heap.size w).alloc (Nat.le_refl _) _).drew | exact (Below.refl w.heap.size w).alloc (Nat.le_refl _) _)).mono ?_; rintro e w1 ⟨rfl, hb1⟩; have HBd := hide hb1; clear hb1))
  all_goals
    have HB0 := hide (nbelow_drew (unhide HBd))
    clear CF
    have HB1 := hide (nbox_then (unhide HB0))
    have tx := unhide HKX w1 (unhide HB0)
    have t0 := tx.c0
    have t3 := tx.c3
    have t4 := tx.c4
    have t5 := tx.c5
    have HTX := hide tx
    have g1 := (unhide HG).next (unhide HB1)
    have d1 := g1.c1
    have hsz1 := (unhide HB1).size
    have hszx := tx.lt
    obtain ⟨g', cap', he, hr, _, _⟩ := g1.nrow (by rw [unhide HE]; simp)
    simp only [Value.slice.injEq, Option.some.injEq, Addr.mk.injEq, and_true] at he
    obtain ⟨rfl, _, rfl⟩ := he
    have at' : ns[A.length]? = some n := by rw [unhide HE]; exact nat_at A n B
    have r5 := hr.row.n5 at'
    rw [Nat.zero_add] at r5
    have HG1 := hide g1
    clear g1 hr at' tx
    go_wp2_with fail
    go_region
    go_wp2_with fail
    go_ret
    exact ⟨rfl, (Touch.of_below (unhide HB1)).drew⟩


end Go.Proofs.YtalnmhgedfgooaaGreatDoor

namespace Go.Proofs.YtalnmhgedfgooaaGreatDoor
open Go.RowKit

set_option maxHeartbeats 2000000 in
theorem iclone_some (a : Addr) (cap : Nat) (ss : List Int) (w : World) (hl : ss.length ≤ 2147483647) (hc : ∀ j u, (cellsL ss)[j]? = some u → w.cell? (a.add j) = some u) :
    Calls Tryz.prog 58 #[.slice (some a) ss.length cap] w fun e w' => ∃ v', e = .returned v' ∧ OwnS w' w.heap.size v' ss ∧ Below w.heap.size w w' := by
  have q22 : ∀ (w : World) (a : Option Addr) (n c n' c' : Nat), (binOp .eql 23 (.slice a n c) (.slice none n' c')).run Tryz.prog w = .ok (.bool a.isNone) w := fun w a n c n' c' => Lib.run_eql_slice_nil w _ _ a n c n' c' Tryz.underlying23
  have H : Hid (∀ j u, (cellsL ss)[j]? = some u → w.cell? (a.add j) = some u) := hc
  clear hc
  obtain ⟨i0, hi0, hz0, hz1, hz2⟩ := iinfo
  go_enter Tryz.func58, Tryz.ntmps58
  go_wp2_with (at_builtin; refine wpList_append_own _ rfl _ _ 23 rfl w.heap.size 3 i0 _ 1 8 Tryz.underlying23 hi0 hz0 hz1 hz2 rfl (by decide) _ _ _ rfl (World.ownsRow_made w #[] 0 (Nat.le_refl _) (Nat.zero_le _) (by simp)) a ss.length cap (cellsL ss) rfl ?qc1 ?qc2 ?qc3 ?qc4 ?qc5 ?qc6 ?_)
  case qc1 => exact (cellsI_length ss).trans (Nat.mul_one _).symm
  case qc2 =>
    intro j u hj
    exact Lib.cell?_alloc_some _ (H.out j u hj)
  case qc3 => exact cellsL_one ss
  case qc4 => simp only [maxLen]; omega
  case qc5 => omega
  case qc6 => simp
  intro v' w1 hown hgrow hnil
  go_wp2
  go_ret
  refine ⟨v', rfl, OwnS.of_row hown, ?_⟩
  exact ((Below.refl _ w).alloc (Nat.le_refl _) _).grown hgrow (by simp) (by intro k hk; simp [Value.ownBlock] at hk; omega)
set_option maxHeartbeats 400000 in
theorem iclone_nil (n c : Nat) (w : World) :
    Calls Tryz.prog 58 #[.slice none n c] w fun e w' => e = .returned (.slice none 0 0) ∧ w' = w := by
  have q22 : ∀ (w : World) (a : Option Addr) (n c n' c' : Nat), (binOp .eql 23 (.slice a n c) (.slice none n' c')).run Tryz.prog w = .ok (.bool a.isNone) w := fun w a n c n' c' => Lib.run_eql_slice_nil w _ _ a n c n' c' Tryz.underlying23
  go_enter Tryz.func58, Tryz.ntmps58
  go_wp2
  go_ret
  exact ⟨rfl, rfl⟩
theorem iclone_any (v : Value) (ss : List Int) (w : World) (hv : SeqV w v ss) (hl : ss.length ≤ 2147483647) :
    Calls Tryz.prog 58 #[v] w fun e w' => ∃ v', e = .returned v' ∧ OwnS w' w.heap.size v' ss ∧ Below w.heap.size w w' := by
  rcases hv with ⟨a, cap, rfl, rfl, _⟩ | ⟨b, off, cap, rfl, _, _, hb, _, hr⟩
  · cases a with
    | none => exact (iclone_nil 0 cap w).mono fun e w' ⟨he, hw⟩ => ⟨_, he, .inl ⟨rfl, rfl⟩, by rw [hw]; exact Below.refl _ _⟩
    | some a => exact iclone_some a cap [] w (by simp) (fun j u h => by simp [cellsL_nil] at h)
  · exact iclone_some ⟨b, off, none⟩ cap ss w hl (fun j u h => by rw [Addr.add_lit]; exact hr j u h)

theorem step_app_nd {w : World} {ops : Array Oper} {o : Oper} {a : Act} {K : Act → World → Prop} {Q : Exit → Act → World → Prop} {E : Prop} (hgd : Region.wanted o (yielded ops a.tmps) = true) (s x : Operand)
    (ho : o.op = .call { callee := .builtin .append, args := #[s, x], argTypes := #[22, 22] })
    (v : Value) (ns : List Nd) (hs : a.eval s = v) (hown : OwnS w 0 v ns)
    (q : Nat) (hx : a.eval x = .slice (some ⟨q, 0, none⟩) 1 1) (t : Nd) (hnews : OneR w q t) (hl : ns.length ≤ 100000)
    (h : ∀ a' c' w', OwnS w' 0 (.slice a' (ns.length + 1) c') (ns ++ [t]) → w.grownBy w' v.ownBlock → ((Value.slice a' (ns.length + 1) c').ownBlock = v.ownBlock ∨ (Value.slice a' (ns.length + 1) c').ownBlock = some w.heap.size) → K (a.put o.dst (.slice a' (ns.length + 1) c')) w') :
    if Region.wanted o (yielded ops a.tmps) = true then Oper.wp Tryz.prog o a w K Q else E := by
  rw [if_pos hgd]
  obtain ⟨i0, hi0, hz0, hz1, hz2⟩ := ninfo
  obtain ⟨v', w', hr, h2, h3, _, h5⟩ := run_append_own_at (P := Tryz.prog) w 0 22 o.type 46 i0 _ 9 88 Tryz.underlying22 hi0 hz0 hz1 hz2 rfl (by decide) v ns.length (cellsL ns) hown.row ⟨q, 0, none⟩ 1 1 (ncells t) rfl (one_news hnews) (Lay.one t) (by simp only [maxLen]; omega) (by omega) (Nat.zero_le _)
  have h2' : OwnS w' 0 v' (ns ++ [t]) := OwnS.of_row (by rw [List.length_append, cellsL_snoc]; exact h2)
  obtain ⟨a', c', rfl, _⟩ := h2'.slice
  have hlen : (ns ++ [t]).length = ns.length + 1 := by simp
  rw [hlen] at h2' hr h5
  unfold Oper.wp execOp
  simp only [ho, resolve, invoke, builtin, Sem.run_bind, Sem.run_pure, Result.andThen_ok, List.map_toArray, List.map_cons, List.map_nil, hs, hx, hr]
  exact h a' c' w' h2' h3 h5
theorem one_newN (w : World) (n : Nd) : OneR (w.alloc (.cells #[.string ⟨n.p.toArray⟩, .string ⟨n.d.toArray⟩, .int .i64 n.c, .int .i64 n.m, .int .i64 n.q, .int .i64 n.v, .int .i64 n.k, .int .i64 n.o, .int .i64 n.n] 46)) w.heap.size n := heap_alloc_new w _

set_option maxRecDepth 20000 in
set_option maxHeartbeats 4000000 in
theorem begun_any (t : Tr) (vn vs : Value) (z : Int) (w : World) (hn : SeqV w vn t.ns) (hs : SeqV w vs t.ss) (hl : t.ns.length ≤ 400) (hls : t.ss.length ≤ 2147483647) (hslim : ∀ n ∈ t.ns, n.p.length ≤ 140737488355328 ∧ n.d.length ≤ 140737488355328) :
    Calls Tryz.prog 34 #[.agg #[.int .i64 t.z, vn, vs], .int .i64 z] w fun e w' =>
      ∃ b vn' vs', e = .returned (.pointer (some ⟨b, 0, none⟩)) ∧ Grow w' (fun k => w.heap.size ≤ k) b z vn' vs' (.slice none 0 0) t.ns t.ss [] ∧ Below w.heap.size w w' := by
  have CC := hide (fun n (hn : n ∈ t.ns) W => tcopied_any n W (hslim n hn).1 (hslim n hn).2)
  have CI := hide (fun W (hW : Below w.heap.size w W) => iclone_any vs t.ss W (hs.next hW) hls)
  have KR : ∀ W, Below w.heap.size w W → ∀ k x, t.ns[k]? = some x → ∃ b off cap, vn = .slice (some ⟨b, off, none⟩) t.ns.length cap ∧ b < w.heap.size ∧ RowAt W b off (cellsL t.ns) := fun W hW k x hx => by
    obtain ⟨b, off, cap, e, hb, hr, _, _⟩ := seq_row hn (fun h0 => by obtain ⟨h1, _⟩ := List.getElem?_eq_some_iff.1 hx; rw [h0] at h1; simp at h1)
    exact ⟨b, off, cap, e, hb, hr.kept hW hb⟩
  have HKR := hide KR
  obtain ⟨na, nc, rfl⟩ := seq_slice hn
  obtain ⟨sa, sc, rfl⟩ := seq_slice hs
  clear hn hs hslim KR
  unfold nodeV at CC
  have S0 : ∀ W, W = (w.alloc (.cells #[.int .i64 t.z, .slice na t.ns.length nc, .slice sa t.ss.length sc] 25)).alloc (.cells #[.int .i64 z, .slice none 0 0, .slice none 0 0, .slice none 0 0] 69) →
      Grow W (fun k => w.heap.size + 1 ≤ k) (w.heap.size + 1) z (.slice none 0 0) (.slice none 0 0) (.slice none 0 0) [] [] [] ∧ Touch (fun k => w.heap.size + 1 ≤ k) (w.alloc (.cells #[.int .i64 t.z, .slice na t.ns.length nc, .slice sa t.ss.length sc] 25)) W := by
    rintro W rfl
    refine ⟨⟨?_, Nat.le_refl _, .inl ⟨rfl, rfl⟩, .inl ⟨rfl, rfl⟩, .inl ⟨rfl, rfl⟩, (by intro k hk; cases hk), (by intro k hk; cases hk), (by intro k hk; cases hk), (by intro k hk; cases hk), (by intro k hk; cases hk)⟩, ?_⟩
    · have := heap_alloc_new (w.alloc (.cells #[.int .i64 t.z, .slice na t.ns.length nc, .slice sa t.ss.length sc] 25)) (.cells #[.int .i64 z, .slice none 0 0, .slice none 0 0, .slice none 0 0] 69)
      rw [show (w.alloc (.cells #[.int .i64 t.z, .slice na t.ns.length nc, .slice sa t.ss.length sc] 25)).heap.size = w.heap.size + 1 by simp] at this
      exact this
    · exact Touch.of_below (allocB _ _)
  have HS0 := hide S0
  have BX : ∀ W, Touch (fun k => w.heap.size + 1 ≤ k) (w.alloc (.cells #[.int .i64 t.z, .slice na t.ns.length nc, .slice sa t.ss.length sc] 25)) W → Below w.heap.size w W ∧ W.cell? ⟨w.heap.size, 2, none⟩ = some (.slice sa t.ss.length sc) ∧ w.heap.size + 1 ≤ W.heap.size := by
    intro W h
    have hb : W.heap[w.heap.size]? = _ := (h.block w.heap.size (by simp) (by omega)).trans (heap_alloc_new w _)
    refine ⟨(allocB w _).trans (h.below (by simp) (fun k hk => by omega)), by simp [World.cell?, hb], by have := h.size; simpa using this⟩
  have HBX := hide BX
  clear S0 BX
  go_enter Tryz.func34, Tryz.ntmps34
  go_wp2_with fail
  go_loopg [18] t.ns.length (fun kx s18 wr => ∃ (k : Nat) (vn' : Value), s18 = .int .i64 k ∧ k ≤ t.ns.length ∧ t.ns.length - k ≤ kx ∧ Hid (Grow wr (fun k => w.heap.size + 1 ≤ k) (w.heap.size + 1) z vn' (.slice none 0 0) (.slice none 0 0) (t.ns.take k) [] []) ∧ Hid (Touch (fun k => w.heap.size + 1 ≤ k) (w.alloc (.cells #[.int .i64 t.z, .slice na t.ns.length nc, .slice sa t.ss.length sc] 25)) wr))
  case atStart =>
    obtain ⟨g0, t0⟩ := unhide HS0 _ rfl
    exact ⟨0, _, rfl, Nat.zero_le _, Nat.le_refl _, hide g0, hide t0⟩
  case round =>
    obtain ⟨k, vn', rfl, hk, hg, hG, hT⟩ := hrel
    obtain ⟨hBw, hc2, hsz⟩ := unhide HBX wr (unhide hT)
    have HBw := hide hBw
    by_cases hlt : k < t.ns.length
    · obtain ⟨x, hx⟩ : ∃ x, t.ns[k]? = some x := ⟨_, List.getElem?_eq_getElem hlt⟩
      obtain ⟨b, off, cap, he, hb, q⟩ := unhide HKR wr hBw k x hx
      simp only [Value.slice.injEq] at he
      obtain ⟨rfl, _, rfl⟩ := he
      have d0 := q.n0 hx
      have d1 := q.n1 hx
      have d2 := q.n2 hx
      have d3 := q.n3 hx
      have d4 := q.n4 hx
      have d5 := q.n5 hx
      have d6 := q.n6 hx
      have d7 := q.n7 hx
      have d8 := q.n8 hx
      have hbw : b < wr.heap.size := by omega
      have CX := fun W => unhide CC x (List.mem_of_getElem? hx) W
      have HT1 := hide (show t.ns.take (k + 1) = t.ns.take k ++ [x] by rw [List.take_add_one, hx]; rfl)
      have hlk : (t.ns.take k).length ≤ 400 := by simp; omega
      obtain ⟨P, hP⟩ : ∃ P, t.ns.take k = P := ⟨_, rfl⟩
      rw [hP] at hG hlk HT1
      clear q hx hP
      obtain ⟨va, vc, rfl, _⟩ := (unhide hG).n.slice
      have h := unhide hG
      have c1 := h.c1
      have f1 := h.fz 1
      have K1 := hide (fun w1 (hb1 : Below wr.heap.size wr w1) => (⟨(h.next hb1).c1, (h.next hb1).fz 1, (h.next hb1).lt, ((h.next hb1).next (allocB _ _)).c1⟩ : w1.cell? ⟨w.heap.size + 1, 1, none⟩ = some (.slice va P.length vc) ∧ w1.frozen? ⟨w.heap.size + 1, 1, none⟩ = false ∧ w.heap.size + 1 < w1.heap.size ∧ (w1.alloc (.cells #[.string ⟨x.p.toArray⟩, .string ⟨x.d.toArray⟩, .int .i64 x.c, .int .i64 x.m, .int .i64 x.q, .int .i64 x.v, .int .i64 x.k, .int .i64 x.o, .int .i64 x.n] 46)).cell? ⟨w.heap.size + 1, 1, none⟩ = some (.slice va P.length vc)))
      have KE := hide (fun w1 (hb1 : Below wr.heap.size wr w1) => (h.next hb1).n.next (allocB w1 (.cells #[.string ⟨x.p.toArray⟩, .string ⟨x.d.toArray⟩, .int .i64 x.c, .int .i64 x.m, .int .i64 x.q, .int .i64 x.v, .int .i64 x.k, .int .i64 x.o, .int .i64 x.n] 46)))
      have K2 : ∀ (w1 w2 : World) (a2 : Option Addr) (c2 : Nat), Below wr.heap.size wr w1 → OwnS w2 0 (.slice a2 (P.length + 1) c2) (P ++ [x]) → (w1.alloc (.cells #[.string ⟨x.p.toArray⟩, .string ⟨x.d.toArray⟩, .int .i64 x.c, .int .i64 x.m, .int .i64 x.q, .int .i64 x.v, .int .i64 x.k, .int .i64 x.o, .int .i64 x.n] 46)).grownBy w2 (Value.slice va P.length vc).ownBlock →
          ((Value.slice a2 (P.length + 1) c2).ownBlock = (Value.slice va P.length vc).ownBlock ∨ (Value.slice a2 (P.length + 1) c2).ownBlock = some (w1.alloc (.cells #[.string ⟨x.p.toArray⟩, .string ⟨x.d.toArray⟩, .int .i64 x.c, .int .i64 x.m, .int .i64 x.q, .int .i64 x.v, .int .i64 x.k, .int .i64 x.o, .int .i64 x.n] 46)).heap.size) →
          w2.cell? ⟨w.heap.size + 1, 1, none⟩ = some (.slice va P.length vc) ∧ w2.frozen? ⟨w.heap.size + 1, 1, none⟩ = false ∧ Grow (w2.setCell ⟨w.heap.size + 1, 1, none⟩ (.slice a2 (P.length + 1) c2)) (fun k => w.heap.size + 1 ≤ k) (w.heap.size + 1) z (.slice a2 (P.length + 1) c2) (.slice none 0 0) (.slice none 0 0) (P ++ [x]) [] [] ∧ Touch (fun k => w.heap.size + 1 ≤ k) wr (w2.setCell ⟨w.heap.size + 1, 1, none⟩ (.slice a2 (P.length + 1) c2)) := by
        intro w1 w2 a2 c2 hb1 ho2 hg2 hl2
        have g1 := (h.next hb1).next (allocB w1 (.cells #[.string ⟨x.p.toArray⟩, .string ⟨x.d.toArray⟩, .int .i64 x.c, .int .i64 x.m, .int .i64 x.q, .int .i64 x.v, .int .i64 x.k, .int .i64 x.o, .int .i64 x.n] 46))
        have n3 : ¬ (Value.slice va P.length vc).ownBlock = some (w.heap.size + 1) := fun e => (h.fn _ e).2 rfl
        refine ⟨hg2.cell g1.c1 (fun e => n3 e.symm), (World.frozen?_of_block (hg2.block _ g1.lt (fun e => n3 e.symm))).trans (g1.fz 1), g1.nd (fun k hk => by have := hb1.size; simp at hk; omega) hg2 ho2 ?_, ?_⟩
        · rcases hl2 with e | e
          · exact .inl e
          · exact .inr ⟨_, Nat.le_refl _, e⟩
        · exact (((Touch.of_below hb1).trans (Touch.of_below (allocB _ _))).trans (Touch.of_grown hg2 (fun k e => (h.fn k e).1))).trans (Touch.set h.fb _)
      have HK2 := hide K2
      have hbn : w.heap.size + 1 ≠ wr.heap.size := by have := h.lt; omega
      have hbl := h.lt
      clear h K2
      go_wp2_with fail
      go_region_law (first
        | (refine step_app_nd (by kernel_rfl) _ _ (by rfl) (.slice va P.length vc) P (by rfl) (unhide KE w1 (unhide HB1)) w1.heap.size (by rfl) x (one_newN w1 x) (by omega) ?_; intro a2 c2 w2 ho2 hg2 hl2; obtain ⟨m3, l3, g2, t2⟩ := unhide HK2 w1 w2 a2 c2 (unhide HB1) ho2 hg2 hl2; have HG2 := hide g2; have HT2 := hide ((unhide hT).trans t2); clear ho2 hg2 hl2 g2 t2)
        | (go_simp; refine (CX _).mono ?_; rintro e w1 ⟨rfl, hb1⟩; have HB1 : Hid (Below wr.heap.size wr w1) := (by first | exact nbox_then (nbelow_drew hb1) | exact nbox_then hb1); obtain ⟨e3, k3, hbn2, d3a⟩ := unhide K1 w1 (unhide HB1); clear hb1))
      all_goals
        go_wp2_with fail
        go_roundg (t.ns.length - (k + 1))
        case measure => omega
        case rel => exact ⟨k + 1, _, rfl, by omega, Nat.le_refl _, (by rw [unhide HT1]; exact HG2), HT2⟩
    · obtain rfl : k = t.ns.length := by omega
      clear hBw
      go_wp2_with fail
      refine (unhide CI wr (unhide HBw)).mono ?_
      rintro e w1 ⟨vs', rfl, ho, hb1⟩
      have h := (unhide hG).next hb1
      have c2 := h.c2
      have f2 := h.fz 2
      have g2 := (unhide hG).se (V := w1) (vs' := vs') (ss' := t.ss) (fun k hk => by omega) ⟨hb1.os, hb1.tape, hb1.output, hb1.size, fun k hk _ => hb1.block k hk⟩ (ho.lower (Nat.zero_le _)) (by
        rcases ho with ⟨rfl, _⟩ | ⟨g, cap, rfl, hB, _⟩
        · exact .inl rfl
        · exact .inr ⟨g, hB, rfl⟩)
      have hne : w.heap.size + 1 ≠ w.heap.size := by omega
      rw [List.take_length] at g2
      have HG2 := hide (g2.cut (G := fun k => w.heap.size ≤ k) (fun k _ hk => by omega))
      have HB2 := hide (nnext (unhide HBw) hb1)
      obtain ⟨sa', sc', rfl, _⟩ := ho.slice
      clear h g2 ho hb1
      go_wp2_with fail
      go_ret
      exact ⟨w.heap.size + 1, _, _, rfl, unhide HG2, (unhide HB2).setCell (by simp) _⟩

end Go.Proofs.YtalnmhgedfgooaaGreatDoor

namespace Go.Proofs.YtalnmhgedfgooaaGreatDoor
open Go.RowKit

theorem one_newI (w : World) (x : Int) : OneR (w.alloc (.cells #[.int .i64 x] 3)) w.heap.size x := heap_alloc_new w _
theorem one_newS (w : World) (x : List UInt8) : OneR (w.alloc (.cells #[.string ⟨x.toArray⟩] 9)) w.heap.size x := heap_alloc_new w _

set_option maxRecDepth 20000 in
set_option maxHeartbeats 2000000 in
theorem gopen_ok (F : Nat → Prop) (b : Nat) (z : Int) (vn vs ve : Value) (ns : List Nd) (ss A B : List Int) (es : List Ev) (s : Int) (w : World)
    (h : Grow w F b z vn vs ve ns ss es) (hF : ∀ k, w.heap.size ≤ k → F k) (G : SGap ss A B s) (hl : ss.length ≤ 2147483646) :
    Calls Tryz.prog 59 #[.pointer (some ⟨b, 0, none⟩), .int .i64 s] w fun e w' => e = .returned (.tuple #[]) ∧ ∃ vs', Grow w' F b z vn vs' ve ns (A ++ s :: B) es ∧ Touch F w w' := by
  have CF := ibs_gap vs ss A B s w h.s.seq (by omega) G
  have h0 := (h.next (allocB w (.cells #[.int .i64 s] 3)))
  have CI := iinsert_any vs A B s w.heap.size _ (by rw [← G.eq]; exact h0.s) (by rw [← G.eq]; omega) (one_newI w s) (fun e => by have := h.s.low _ e; omega)
  have c2 := h.c2
  have HG0 := hide h0
  have HF := hide hF
  have hbl := h.lt
  obtain ⟨sa, sc, rfl, _⟩ := h.s.slice
  have HCI := hide CI
  clear h h0 hF G CI
  go_enter Tryz.func59, Tryz.ntmps59
  go_wp2_with fail
  refine CF.mono ?_
  rintro e w1 ⟨rfl, rfl⟩
  go_wp2_with fail
  refine (unhide HCI).mono ?_
  rintro e w2 ⟨v', rfl, ho, hg, hloc⟩
  have n2 : ¬ (Value.slice sa ss.length sc).ownBlock = some b := fun e => ((unhide HG0).fs b e).2 rfl
  have m2 : w2.cell? ⟨b, 2, none⟩ = some (.slice sa ss.length sc) := hg.cell (unhide HG0).c2 (fun e => n2 e.symm)
  have l2 : w2.frozen? ⟨b, 2, none⟩ = false := (World.frozen?_of_block (hg.block b (unhide HG0).lt (fun e => n2 e.symm))).trans ((unhide HG0).fz 2)
  have g2 := (unhide HG0).se (vs' := v') (ss' := A ++ s :: B) (fun k hk => unhide HF k (by simp at hk; omega)) hg ho hloc
  have t2 : Touch F w1 (w2.setCell ⟨b, 2, none⟩ v') := ((Touch.of_below (allocB w1 _)).trans (Touch.of_grown hg (fun k e => ((unhide HG0).fs k e).1))).trans (Touch.set (unhide HG0).fb _)
  obtain ⟨va, L, vc, rfl⟩ : ∃ va L vc, v' = .slice va L vc := by obtain ⟨va, vc, h, _⟩ := ho.slice; exact ⟨_, _, _, h⟩
  have HG2 := hide g2
  have HT2 := hide t2
  clear g2 t2 ho hg hloc n2
  go_wp2_with fail
  go_end0
  exact ⟨rfl, _, unhide HG2, unhide HT2⟩

/- owned -/
theorem sinfo0 : (Tryz.prog.info? 9).map (fun i => (i.zero, i.size, i.bytes)) = some (some (.string ⟨#[]⟩), 1, 16) := by kernel_rfl
theorem sinfo : ∃ i0, Tryz.prog.info? 9 = some i0 ∧ i0.zero = some (.string ⟨#[]⟩) ∧ i0.size = 1 ∧ i0.bytes = 16 := by
  obtain ⟨i0, h, e⟩ := Option.map_eq_some_iff.1 sinfo0
  simp only [Prod.mk.injEq] at e
  exact ⟨i0, h, e⟩
theorem owned_take {ns : List Nd} {k : Nat} {x : Nd} (hx : ns[k]? = some x) (s : Int) : ownedP (ns.take (k + 1)) s = ownedP (ns.take k) s ++ (if x.o = s then [x.p] else []) := by
  rw [List.take_add_one, hx]
  simp only [ownedP, Option.toList_some, List.filter_append, List.map_append, List.filter_cons, List.filter_nil, decide_eq_true_eq]
  split <;> simp
theorem owned_len (ns : List Nd) (s : Int) : (ownedP ns s).length ≤ ns.length := by
  rw [ownedP, List.length_map]
  exact List.length_filter_le _ _
set_option maxRecDepth 20000 in
set_option maxHeartbeats 4000000 in
theorem owned_any (F : Nat → Prop) (b : Nat) (z : Int) (vn vs ve : Value) (ns : List Nd) (ss : List Int) (es : List Ev) (s : Int) (w : World)
    (h : Grow w F b z vn vs ve ns ss es) (hl : ns.length ≤ 400) (h0 : ns ≠ []) :
    Calls Tryz.prog 75 #[.pointer (some ⟨b, 0, none⟩), .int .i64 s] w fun e w' => ∃ v', e = .returned v' ∧ OwnS w' w.heap.size v' (ownedP ns s) ∧ Below w.heap.size w w' := by
  obtain ⟨i0, hi0, hz0, hz1, hz2⟩ := sinfo
  obtain ⟨g, cap, rfl, hr, hgb, hFg⟩ := h.nrow h0
  have hgl := hr.lt
  have c1 := h.c1
  have H := hide hr.row
  clear h hr
  go_enter Tryz.func75, Tryz.ntmps75
  go_wp2_with fail
  go_loopg [5, 14] ns.length (fun kx s5 s14 wr => ∃ k : Nat, s14 = .int .i64 k ∧ k ≤ ns.length ∧ ns.length - k ≤ kx ∧ Hid (OwnS wr w.heap.size s5 (ownedP (ns.take k) s)) ∧ Hid (Below w.heap.size w wr))
  case atStart => exact ⟨0, rfl, Nat.zero_le _, Nat.le_refl _, hide (.inl ⟨rfl, rfl⟩), hide (Below.refl _ _)⟩
  case round =>
    obtain ⟨k, rfl, hk, hg, hO, hB⟩ := hrel
    by_cases hlt : k < ns.length
    · obtain ⟨x, hx⟩ : ∃ x, ns[k]? = some x := ⟨_, List.getElem?_eq_getElem hlt⟩
      have q := (unhide H).kept (unhide hB) hgl
      have d0 := q.n0 hx
      have d1 := q.n1 hx
      have d2 := q.n2 hx
      have d3 := q.n3 hx
      have d4 := q.n4 hx
      have d5 := q.n5 hx
      have d6 := q.n6 hx
      have d7 := q.n7 hx
      have d8 := q.n8 hx
      rw [Nat.zero_add] at d0 d1 d2 d3 d4 d5 d6 d7 d8
      have hbw : g < wr.heap.size := Nat.lt_of_lt_of_le hgl (unhide hB).size
      have HT := hide (owned_take hx s)
      have hln := owned_len (ns.take k) s
      simp only [List.length_take] at hln
      clear q hx
      obtain ⟨va, vc, rfl, _⟩ := (unhide hO).slice
      have hrow := (unhide hO).row
      by_cases hs : x.o = s
      · have hsb : (x.o == s) = true := by simpa using hs
        have HS := hide hs
        clear hs
        obtain ⟨P, hP⟩ : ∃ P, ownedP (ns.take k) s = P := ⟨_, rfl⟩
        rw [hP] at hO hln HT hrow
        rw [hP]
        clear hP
        have HRW := hide hrow
        clear hrow
        go_wp2_with (at_builtin; refine wpList_append_own _ rfl _ _ 83 rfl w.heap.size 9 i0 _ 1 16 Tryz.underlying83 hi0 hz0 hz1 hz2 rfl (by decide) _ P.length (cellsL P) rfl ((((unhide hO).next (allocB wr (.cells #[.string ⟨x.p.toArray⟩, .string ⟨x.d.toArray⟩, .int .i64 x.c, .int .i64 x.m, .int .i64 x.q, .int .i64 x.v, .int .i64 x.k, .int .i64 x.o, .int .i64 x.n] 46))).next (allocB _ _)).row) ⟨wr.heap.size + 1, 0, none⟩ 1 1 [.string ⟨x.p.toArray⟩] rfl (by rfl) ?qc2 (by intro u hu; simp at hu; subst hu; rfl) ?qc4 ?qc5 ?qc6 ?_)
        case qc2 =>
          intro j u hj
          have := one_news (one_newS (wr.alloc (.cells #[.string ⟨x.p.toArray⟩, .string ⟨x.d.toArray⟩, .int .i64 x.c, .int .i64 x.m, .int .i64 x.q, .int .i64 x.v, .int .i64 x.k, .int .i64 x.o, .int .i64 x.n] 46)) x.p) j u hj
          simpa using this
        case qc4 => simp only [maxLen]; omega
        case qc5 => omega
        case qc6 => have := (unhide hB).size; simp; omega
        intro v' w1 hown hgrow _
        have O1 : OwnS w1 w.heap.size v' (P ++ [x.p]) := OwnS.of_row (by rw [List.length_append, cellsL_snoc]; exact hown)
        have hB0 : Below w.heap.size w ((wr.alloc (.cells #[.string ⟨x.p.toArray⟩, .string ⟨x.d.toArray⟩, .int .i64 x.c, .int .i64 x.m, .int .i64 x.q, .int .i64 x.v, .int .i64 x.k, .int .i64 x.o, .int .i64 x.n] 46)).alloc (.cells #[.string ⟨x.p.toArray⟩] 9)) := nnext (unhide hB) (nnext (allocB _ _) (allocB _ _))
        have B1 : Below w.heap.size w w1 := hB0.grown hgrow hB0.size (fun j hj => by
          rcases unhide hO with ⟨e, _⟩ | ⟨q, c, e, hq, _⟩
          · rw [e] at hj; cases hj
          · rw [e] at hj; cases hj; exact hq)
        have HO1 := hide O1
        have HB1 := hide B1
        obtain ⟨wa, wc, rfl, _⟩ := O1.slice
        clear O1 B1 hB0 hown hgrow
        go_wp2_with fail
        go_roundg (ns.length - (k + 1))
        case measure => omega
        case rel => exact ⟨k + 1, rfl, by omega, Nat.le_refl _, (by rw [unhide HT, if_pos (unhide HS)]; exact HO1), HB1⟩
      · have hsb : (x.o == s) = false := by simpa using hs
        have HS := hide hs
        have HO1 := hide ((unhide hO).next (allocB wr (.cells #[.string ⟨x.p.toArray⟩, .string ⟨x.d.toArray⟩, .int .i64 x.c, .int .i64 x.m, .int .i64 x.q, .int .i64 x.v, .int .i64 x.k, .int .i64 x.o, .int .i64 x.n] 46)))
        clear hs hrow
        go_wp2_with fail
        go_roundg (ns.length - (k + 1))
        case measure => omega
        case rel => exact ⟨k + 1, rfl, by omega, Nat.le_refl _, (by rw [unhide HT, if_neg (unhide HS), List.append_nil]; exact HO1), hide (nnext (unhide hB) (allocB _ _))⟩
    · obtain rfl : k = ns.length := by omega
      have O1 := unhide hO
      rw [List.take_length] at O1
      have HO1 := hide O1
      obtain ⟨wa, wc, rfl, _⟩ := O1.slice
      clear O1
      go_wp2_with fail
      go_ret
      exact ⟨_, rfl, unhide HO1, unhide hB⟩

end Go.Proofs.YtalnmhgedfgooaaGreatDoor

namespace Go.Proofs.YtalnmhgedfgooaaGreatDoor
open Go.RowKit

theorem OwnS.touched {α : Type} [Lay α] {W V : World} {B : Nat} {v : Value} {xs : List α} {F : Nat → Prop} (h : OwnS W B v xs) (ht : Touch F W V) (hf : ∀ k, v.ownBlock = some k → ¬ F k) : OwnS V B v xs := by
  rcases h with h | ⟨g, cap, rfl, hB, h⟩
  · exact .inl h
  · obtain ⟨rest, h1, h2⟩ := h
    have hlt := (Array.getElem?_eq_some_iff.1 h1).1
    exact .inr ⟨g, cap, rfl, hB, rest, (ht.block g hlt (hf g rfl)).trans h1, h2⟩
def Closed (F : Nat → Prop) (b : Nat) (z : Int) (ns : List Nd) (ss' : List Int) (ps : List (List UInt8)) (w : World) (e : Ending) (w' : World) : Prop :=
  (fullN (rmAll z ns ps) = true ∧ e = .returned (.int .i64 6) ∧ Touch F w w') ∨
  (fullN (rmAll z ns ps) = false ∧ e = .returned (.int .i64 0) ∧ ∃ vn' vs' ve', Grow w' F b z vn' vs' ve' (rmAll z ns ps) ss' (rmEv ps) ∧ Touch F w w')
structure Clo (z s : Int) (ss0 : List Int) (cur : List Nd) (ps : List (List UInt8)) : Prop where
  g : GoodN z cur ss0
  r : Rest s cur ps
  c : ∀ n ∈ cur, n.k ≤ 2147483647
/-- one removal: what it comes to -/
theorem clo_step (F : Nat → Prop) (b : Nat) (z s : Int) (vn vs ve : Value) (cur : List Nd) (ss ss0 : List Int) (es : List Ev) (p : List UInt8) (ps : List (List UInt8)) (w : World)
    (h : Grow w F b z vn vs ve cur ss es) (hF : ∀ k, w.heap.size ≤ k → F k) (hes : es.length ≤ 99998) (C : Clo z s ss0 cur (p :: ps)) :
    (fullN (rmAll z cur (p :: ps)) = true ∧ Calls Tryz.prog 62 #[.pointer (some ⟨b, 0, none⟩), .string ⟨p.toArray⟩] w fun e w' => e = .returned (.int .i64 6) ∧ Touch F w w') ∨
    (Clo z s ss0 (rmN z cur p) ps ∧ Calls Tryz.prog 62 #[.pointer (some ⟨b, 0, none⟩), .string ⟨p.toArray⟩] w fun e w' => e = .returned (.int .i64 0) ∧ ∃ vn' ve', Grow w' F b z vn' vs ve' (rmN z cur p) ss (es ++ [⟨2, p⟩, ⟨4, dirOf p⟩]) ∧ Touch F w w') := by
  obtain ⟨A, n, B, u, T, ho, hk, hr, hgd, hu1, hu2, hu3, hu4, hu5, hu6, g', R'⟩ := rest_step C.g C.r
  obtain ⟨A', B', T'⟩ := there_drop C.g.asc T hu2 hu3 hu4
  have hp := goodB_le hgd
  have hd := dirOf_len p
  have hkk := C.c u hu2
  have h0 := (C.g.ok u hu2).k0
  have hn := (C.g.ok u hu2).kids
  have hn2 : kidsN cur u.p ≤ cur.length := List.countP_le_length
  have hl := C.g.few
  by_cases hf : u.k = 2147483647
  · refine .inl ⟨rm_full hu2 hu3 hu4 hf ps hu6, ?_⟩
    exact remove_full F b z vn vs ve cur A B A' B' n u ss es p w h hF T T' hl hk hf (by omega) (by omega)
  · refine .inr ⟨⟨g', R', rm_cap C.g.asc hu2 hu3 (by omega) C.c⟩, ?_⟩
    exact remove_ok F b z vn vs ve cur A B A' B' n u ss es p w h hF T T' hl hk ⟨h0, by omega⟩ (by omega) (by omega) (by omega) (by omega)

end Go.Proofs.YtalnmhgedfgooaaGreatDoor

namespace Go.Proofs.YtalnmhgedfgooaaGreatDoor
open Go.RowKit

set_option maxRecDepth 20000 in
set_option maxHeartbeats 4000000 in
theorem close_any (F : Nat → Prop) (b : Nat) (z : Int) (vn vs ve : Value) (ns : List Nd) (ss A B ss0 : List Int) (s : Int) (w : World)
    (h : Grow w F b z vn vs ve ns ss []) (hF : ∀ k, w.heap.size ≤ k → F k) (T : SThere ss A B s) (hl : ss.length ≤ 2147483647) (C : Clo z s ss0 ns (ownedP ns s)) :
    Calls Tryz.prog 60 #[.pointer (some ⟨b, 0, none⟩), .int .i64 s] w fun e w' => Closed F b z ns (A ++ B) (ownedP ns s) w e w' := by
  have CF := ibs_there vs ss A B s w h.s.seq hl T
  have hne : ns ≠ [] := by obtain ⟨r, rest, e, _⟩ := C.g.root; rw [e]; simp
  have hfew := C.g.few
  obtain ⟨g, cap, hsv, hr⟩ : ∃ g cap, vs = .slice (some ⟨g, 0, none⟩) ss.length cap ∧ OwnR w g cap (A ++ s :: B) := by
    rcases h.s with ⟨_, e⟩ | ⟨g, cap, e, _, h3⟩
    · have := T.eq; rw [e] at this; simp at this
    · exact ⟨g, cap, e, by rw [← T.eq]; exact h3⟩
  subst hsv
  have hlen : ss.length = A.length + B.length + 1 := by rw [T.eq]; simp; omega
  have CD := idelete_any g cap A B s ss.length w hr hlen hl
  have c2 := h.c2
  have hgb := (h.fs g rfl).2
  have hFg := (h.fs g rfl).1
  have HG := hide h
  have HF := hide hF
  have HC := hide C
  have HCD := hide CD
  obtain ⟨ps, hps⟩ : ∃ ps, ownedP ns s = ps := ⟨_, rfl⟩
  have HPS := hide hps
  have hpl : ps.length ≤ 400 := by rw [← hps]; exact Nat.le_trans (owned_len ns s) hfew
  rw [hps]
  have hAl : A.length < ss.length := by omega
  clear h hF T hr CD C hps hlen
  go_enter Tryz.func60, Tryz.ntmps60
  go_wp2_with fail
  refine CF.mono ?_
  rintro e w1 ⟨rfl, rfl⟩
  clear CF
  go_wp2_with fail
  rw [show ((A.length : Int) + 1) = ((A.length + 1 : Nat) : Int) from by omega]
  refine (unhide HCD).mono ?_
  rintro e w2 ⟨rfl, ho2, hg2⟩
  have m2 : w2.cell? ⟨b, 2, none⟩ = some (.slice (some ⟨g, 0, none⟩) ss.length cap) := hg2.cell c2 (fun e => hgb (Option.some.inj e).symm)
  have l2 : w2.frozen? ⟨b, 2, none⟩ = false := (World.frozen?_of_block (hg2.block b (unhide HG).lt (fun e => hgb (Option.some.inj e).symm))).trans ((unhide HG).fz 2)
  have g2 := (unhide HG).se (vs' := .slice (some ⟨g, 0, none⟩) (A.length + B.length) cap) (ss' := A ++ B) (unhide HF) hg2 (.inr ⟨g, cap, by rw [List.length_append], Nat.zero_le _, ho2⟩) (.inl rfl)
  have t2 : Touch F w1 (w2.setCell ⟨b, 2, none⟩ (.slice (some ⟨g, 0, none⟩) (A.length + B.length) cap)) := (Touch.of_grown hg2 (fun k e => by cases e; exact hFg)).trans (Touch.set g2.fb _)
  have HG2 := hide g2
  have HT2 := hide t2
  clear g2 t2 ho2 hg2 HCD c2
  go_wp2_with fail
  refine (owned_any F b z _ _ _ _ _ _ s _ (unhide HG2) hfew hne).mono ?_
  rintro e w3 ⟨v3, rfl, ho3, hb3⟩
  rw [unhide HPS] at ho3
  have g3 := (unhide HG2).next hb3
  have HG3 := hide g3
  have HO3 := hide ho3
  obtain ⟨pa, pc, rfl, _⟩ := ho3.slice
  have hlow : ∀ k, (Value.slice pa ps.length pc).ownBlock = some k → (w2.setCell ⟨b, 2, none⟩ (.slice (some ⟨g, 0, none⟩) (A.length + B.length) cap)).heap.size ≤ k := by
    intro k e
    rcases unhide HO3 with ⟨h1, _⟩ | ⟨q, c, h1, hq, _⟩
    · rw [h1] at e; cases e
    · rw [h1] at e; cases e; exact hq
  have F3 : Hid (Grow w3 (fun k => F k ∧ (Value.slice pa ps.length pc).ownBlock ≠ some k) b z vn (.slice (some ⟨g, 0, none⟩) (A.length + B.length) cap) ve ns (A ++ B) []) := by
    have q := unhide HG2
    exact ⟨g3.blk, ⟨g3.fb, fun e => by have := hlow _ e; have := q.lt; omega⟩, g3.n, g3.s, g3.e, fun k hk => ⟨⟨(g3.fn k hk).1, fun e => by have := hlow _ e; have := q.n.low k hk; omega⟩, (g3.fn k hk).2⟩, fun k hk => ⟨⟨(g3.fs k hk).1, fun e => by have := hlow _ e; have := q.s.low k hk; omega⟩, (g3.fs k hk).2⟩, fun k hk => ⟨⟨(g3.fe k hk).1, fun e => by have := hlow _ e; have := q.e.low k hk; omega⟩, (g3.fe k hk).2⟩, g3.an, g3.asn⟩
  have T3 := hide ((unhide HT2).trans (Touch.of_below hb3))
  have hpb : ∀ k, (Value.slice pa ps.length pc).ownBlock = some k → k < w3.heap.size := fun k e => (unhide HO3).low k e
  have HPB := hide hpb
  have HF3 : Hid (∀ W : World, w3.heap.size ≤ W.heap.size → ∀ k, W.heap.size ≤ k → F k ∧ (Value.slice pa ps.length pc).ownBlock ≠ some k) := fun W hW k hk => ⟨unhide HF k (by have := (unhide T3).size; omega), fun e => by have := unhide HPB k e; omega⟩
  clear g3 ho3 hlow hpb hb3 m2 l2
  go_wp2_with fail
  go_loopg [37] ps.length (fun kx s37 wr => ∃ (k : Nat) (vn' ve' : Value), s37 = .int .i64 k ∧ k ≤ ps.length ∧ ps.length - k ≤ kx ∧ Hid (Grow wr (fun k => F k ∧ (Value.slice pa ps.length pc).ownBlock ≠ some k) b z vn' (.slice (some ⟨g, 0, none⟩) (A.length + B.length) cap) ve' (rmAll z ns (ps.take k)) (A ++ B) (rmEv (ps.take k))) ∧ Hid (Clo z s ss0 (rmAll z ns (ps.take k)) (ps.drop k)) ∧ Hid (Touch (fun k => F k ∧ (Value.slice pa ps.length pc).ownBlock ≠ some k) w3 wr))
  case atStart => exact ⟨0, vn, ve, rfl, Nat.zero_le _, Nat.le_refl _, F3, (by rw [List.drop_zero]; have := unhide HC; rw [unhide HPS] at this; exact hide this), hide (Touch.refl _ _)⟩
  case round =>
    obtain ⟨k, vn', ve', rfl, hk, hg, hG, hCl, hT⟩ := hrel
    have tF : Hid (Touch F w1 wr) := hide ((unhide T3).trans ((unhide hT).mono (fun k _ hk => hk.1)))
    by_cases hlt : k < ps.length
    · obtain ⟨p, hp⟩ : ∃ p, ps[k]? = some p := ⟨_, List.getElem?_eq_getElem hlt⟩
      have hor := (unhide HO3).touched (unhide hT) (fun q e h => h.2 e)
      obtain ⟨q, off, cq, he, _, hrow, _, _⟩ := seq_row hor.seq (by intro e; rw [e] at hlt; simp at hlt)
      simp only [Value.slice.injEq] at he
      obtain ⟨rfl, _, rfl⟩ := he
      have r0 := hrow.s0 hp
      have hdr : ps.drop k = p :: ps.drop (k + 1) := by rw [List.drop_eq_getElem_cons hlt]; congr 1; rw [List.getElem?_eq_getElem hlt] at hp; exact Option.some.inj hp
      have hev : (rmEv (ps.take k)).length ≤ 99998 := by rw [rmEv_len, List.length_take]; omega
      have CL := unhide hCl
      rw [hdr] at CL
      have ST := clo_step _ b z s vn' _ ve' _ (A ++ B) ss0 _ p (ps.drop (k + 1)) wr (unhide hG) (unhide HF3 wr (unhide hT).size) hev CL
      have HN := hide (rmAll_next z ns hp)
      have HV := hide (rmEv_next hp)
      have HSP := hide (show rmAll z ns ps = rmAll z (rmAll z ns (ps.take k)) (p :: ps.drop (k + 1)) by rw [← hdr]; exact rmAll_split z ns ps k)
      clear CL hdr hp hor hrow
      rcases ST with ⟨hfull, C6⟩ | ⟨C0, C00⟩
      · have HFU := hide hfull
        clear hfull
        go_wp2_with fail
        refine C6.mono ?_
        rintro e w4 ⟨rfl, t4⟩
        have HT4 := hide ((unhide tF).trans (t4.mono (fun k _ hk => hk.1)))
        clear C6 t4
        go_wp2_with fail
        go_ret
        exact .inl ⟨by rw [unhide HSP]; exact unhide HFU, rfl, unhide HT4⟩
      · have HC0 := hide C0
        clear C0
        go_wp2_with fail
        refine C00.mono ?_
        rintro e w4 ⟨rfl, vn2, ve2, g4, t4⟩
        have HG4 := hide g4
        have HT4 := hide ((unhide hT).trans t4)
        clear C00 t4 g4
        go_wp2_with fail
        go_roundg (ps.length - (k + 1))
        case measure => omega
        case rel => exact ⟨k + 1, vn2, ve2, rfl, by omega, Nat.le_refl _, (by rw [unhide HN, unhide HV]; exact HG4), (by rw [unhide HN]; exact HC0), HT4⟩
    · obtain rfl : k = ps.length := by omega
      have hGf := (unhide hG).cut (G := F) (fun k _ hk => hk.1)
      have hcap := (unhide hCl).c
      rw [List.take_length] at hGf hcap
      have HGf := hide hGf
      have HCp := hide (fullN_false.2 hcap)
      clear hGf hcap
      go_wp2_with fail
      go_ret
      exact .inr ⟨unhide HCp, rfl, vn', _, ve', unhide HGf, unhide tF⟩

end Go.Proofs.YtalnmhgedfgooaaGreatDoor

namespace Go.Proofs.YtalnmhgedfgooaaGreatDoor
open Go.RowKit

set_option maxRecDepth 20000 in
set_option maxHeartbeats 4000000 in
theorem cre_twice (F : Nat → Prop) (b : Nat) (z : Int) (vn vs ve : Value) (ns : List Nd) (A B : List Nd) (n : Nd) (ss : List Int) (es : List Ev) (x : WTxn) (w : World)
    (h : Grow w F b z vn vs ve ns ss es) (T : NThere ns A n B x.p) (hl : ns.length ≤ 400) (ha : NAsc ns) :
    Calls Tryz.prog 61 #[.pointer (some ⟨b, 0, none⟩), txnV x] w fun e w' => e = .returned (.int .i64 8) ∧ Touch F w w' := by
  obtain ⟨xz, xo, xs, xp, xd, xv, xw⟩ := x
  simp only at T
  have CF := fun W (hW : Below w.heap.size w W) => nfind_there vn ns A B n xp W (h.n.next hW).seq (by omega) T
  have HCS := hide (fun W => split_any xp W)
  have HCG := hide (fun W (hW : Below w.heap.size w W) => nfind_any vn ns (dirOf xp) W (h.n.next hW).seq (by omega) ha)
  have KX : ∀ w1, Below (w.alloc (.cells #[.int .i64 xz, .int .i64 xo, .int .i64 xs, .string ⟨xp.toArray⟩, .string ⟨xd.toArray⟩, .int .i64 xv, .int .i64 xw] 29)).heap.size (w.alloc (.cells #[.int .i64 xz, .int .i64 xo, .int .i64 xs, .string ⟨xp.toArray⟩, .string ⟨xd.toArray⟩, .int .i64 xv, .int .i64 xw] 29)) w1 → TAt w1 w.heap.size ⟨xz, xo, xs, xp, xd, xv, xw⟩ := fun w1 h1 => (TAt.new w ⟨xz, xo, xs, xp, xd, xv, xw⟩).next h1
  have HKX := hide KX
  have c1 := h.c1
  have hbl := h.lt
  obtain ⟨na, nc, rfl, _⟩ := h.n.slice
  have HG := hide h
  clear h T ha KX
  unfold txnV
  go_enter Tryz.func61, Tryz.ntmps61
  go_wp2_with fail
  go_region_law (first
    | (go_simp; refine (CF _ (by first | exact ((Below.refl w.heap.size w).alloc (Nat.le_refl _) _).drew | exact (Below.refl w.heap.size w).alloc (Nat.le_refl _) _)).mono ?_; rintro e w1 ⟨rfl, hb1⟩; have HBd := hide hb1; clear hb1))
  all_goals
    have HB0 := hide (nbelow_drew (unhide HBd))
    clear CF
    have HB1 := hide (nbox_then (unhide HB0))
    have tx := unhide HKX w1 (unhide HB0)
    have t3 := tx.c3
    have HTX := hide tx
    have g1 := (unhide HG).next (unhide HB1)
    have HG1 := hide g1
    clear g1 tx c1
    go_wp2_with fail
    refine (unhide HCS _).mono ?_
    rintro e w2 ⟨rfl, hb2⟩
    have HB2 := hide (nnext (unhide HB1) hb2)
    have tx2 := (unhide HTX).next hb2
    have g2 := (unhide HG1).next hb2
    have e1 := g2.c1
    have HTX2 := hide tx2
    have HG2 := hide g2
    clear tx2 g2 hb2 t3
    go_wp2_with fail
    obtain ⟨j, _, C2⟩ := unhide HCG _ (unhide HB2)
    refine C2.mono ?_
    rintro e w3 ⟨rfl, hb3⟩
    have HB3 := hide (nnext (unhide HB2) hb3)
    go_wp2_with fail
    go_ret
    exact ⟨rfl, Touch.of_below (unhide HB3)⟩

set_option maxRecDepth 20000 in
set_option maxHeartbeats 4000000 in
theorem cre_none (F : Nat → Prop) (b : Nat) (z : Int) (vn vs ve : Value) (ns : List Nd) (A B A' B' : List Nd) (ss : List Int) (es : List Ev) (x : WTxn) (w : World)
    (h : Grow w F b z vn vs ve ns ss es) (G : NGap ns A B x.p) (U : NGap ns A' B' (dirOf x.p)) (hl : ns.length ≤ 400) :
    Calls Tryz.prog 61 #[.pointer (some ⟨b, 0, none⟩), txnV x] w fun e w' => e = .returned (.int .i64 7) ∧ Touch F w w' := by
  obtain ⟨xz, xo, xs, xp, xd, xv, xw⟩ := x
  simp only at G U
  have CF := fun W (hW : Below w.heap.size w W) => nfind_gap vn ns A B xp W (h.n.next hW).seq (by omega) G
  have HCS := hide (fun W => split_any xp W)
  have HCG := hide (fun W (hW : Below w.heap.size w W) => nfind_gap vn ns A' B' (dirOf xp) W (h.n.next hW).seq (by omega) U)
  have KX : ∀ w1, Below (w.alloc (.cells #[.int .i64 xz, .int .i64 xo, .int .i64 xs, .string ⟨xp.toArray⟩, .string ⟨xd.toArray⟩, .int .i64 xv, .int .i64 xw] 29)).heap.size (w.alloc (.cells #[.int .i64 xz, .int .i64 xo, .int .i64 xs, .string ⟨xp.toArray⟩, .string ⟨xd.toArray⟩, .int .i64 xv, .int .i64 xw] 29)) w1 → TAt w1 w.heap.size ⟨xz, xo, xs, xp, xd, xv, xw⟩ := fun w1 h1 => (TAt.new w ⟨xz, xo, xs, xp, xd, xv, xw⟩).next h1
  have HKX := hide KX
  have c1 := h.c1
  have hbl := h.lt
  obtain ⟨na, nc, rfl, _⟩ := h.n.slice
  have HG := hide h
  clear h G U KX
  unfold txnV
  go_enter Tryz.func61, Tryz.ntmps61
  go_wp2_with fail
  go_region_law (first
    | (go_simp; refine (CF _ (by first | exact ((Below.refl w.heap.size w).alloc (Nat.le_refl _) _).drew | exact (Below.refl w.heap.size w).alloc (Nat.le_refl _) _)).mono ?_; rintro e w1 ⟨rfl, hb1⟩; have HBd := hide hb1; clear hb1))
  all_goals
    have HB0 := hide (nbelow_drew (unhide HBd))
    clear CF
    have HB1 := hide (nbox_then (unhide HB0))
    have tx := unhide HKX w1 (unhide HB0)
    have t3 := tx.c3
    have HTX := hide tx
    have g1 := (unhide HG).next (unhide HB1)
    have HG1 := hide g1
    clear g1 tx c1
    go_wp2_with fail
    refine (unhide HCS _).mono ?_
    rintro e w2 ⟨rfl, hb2⟩
    have HB2 := hide (nnext (unhide HB1) hb2)
    have tx2 := (unhide HTX).next hb2
    have g2 := (unhide HG1).next hb2
    have e1 := g2.c1
    have HTX2 := hide tx2
    have HG2 := hide g2
    clear tx2 g2 hb2 t3
    go_wp2_with fail
    refine (unhide HCG _ (unhide HB2)).mono ?_
    rintro e w3 ⟨rfl, hb3⟩
    have HB3 := hide (nnext (unhide HB2) hb3)
    go_wp2_with fail
    go_ret
    exact ⟨rfl, Touch.of_below (unhide HB3)⟩

set_option maxRecDepth 20000 in
set_option maxHeartbeats 4000000 in
theorem cre_owned (F : Nat → Prop) (b : Nat) (z : Int) (vn vs ve : Value) (ns : List Nd) (A B A' B' : List Nd) (u : Nd) (ss : List Int) (es : List Ev) (x : WTxn) (w : World)
    (h : Grow w F b z vn vs ve ns ss es) (G : NGap ns A B x.p) (U : NThere ns A' u B' (dirOf x.p)) (hl : ns.length ≤ 400) (ho : u.o ≠ 0) :
    Calls Tryz.prog 61 #[.pointer (some ⟨b, 0, none⟩), txnV x] w fun e w' => e = .returned (.int .i64 11) ∧ Touch F w w' := by
  obtain ⟨xz, xo, xs, xp, xd, xv, xw⟩ := x
  simp only at G U
  have CF := fun W (hW : Below w.heap.size w W) => nfind_gap vn ns A B xp W (h.n.next hW).seq (by omega) G
  have HCS := hide (fun W => split_any xp W)
  have HCG := hide (fun W (hW : Below w.heap.size w W) => nfind_there vn ns A' B' u (dirOf xp) W (h.n.next hW).seq (by omega) U)
  have KX : ∀ w1, Below (w.alloc (.cells #[.int .i64 xz, .int .i64 xo, .int .i64 xs, .string ⟨xp.toArray⟩, .string ⟨xd.toArray⟩, .int .i64 xv, .int .i64 xw] 29)).heap.size (w.alloc (.cells #[.int .i64 xz, .int .i64 xo, .int .i64 xs, .string ⟨xp.toArray⟩, .string ⟨xd.toArray⟩, .int .i64 xv, .int .i64 xw] 29)) w1 → TAt w1 w.heap.size ⟨xz, xo, xs, xp, xd, xv, xw⟩ := fun w1 h1 => (TAt.new w ⟨xz, xo, xs, xp, xd, xv, xw⟩).next h1
  have HKX := hide KX
  have c1 := h.c1
  have hbl := h.lt
  obtain ⟨g, cap, rfl, hr, hgb, hFg⟩ := h.nrow (by rw [U.eq]; simp)
  have HG := hide h
  have HE := hide U.eq
  have hlt : A'.length < ns.length := by rw [U.eq]; simp
  have hob : (u.o != 0) = true := by simpa using ho
  clear h G U KX ho hr
  unfold txnV
  go_enter Tryz.func61, Tryz.ntmps61
  go_wp2_with fail
  go_region_law (first
    | (go_simp; refine (CF _ (by first | exact ((Below.refl w.heap.size w).alloc (Nat.le_refl _) _).drew | exact (Below.refl w.heap.size w).alloc (Nat.le_refl _) _)).mono ?_; rintro e w1 ⟨rfl, hb1⟩; have HBd := hide hb1; clear hb1))
  all_goals
    have HB0 := hide (nbelow_drew (unhide HBd))
    clear CF
    have HB1 := hide (nbox_then (unhide HB0))
    have tx := unhide HKX w1 (unhide HB0)
    have t3 := tx.c3
    have HTX := hide tx
    have g1 := (unhide HG).next (unhide HB1)
    have HG1 := hide g1
    clear g1 tx c1
    go_wp2_with fail
    refine (unhide HCS _).mono ?_
    rintro e w2 ⟨rfl, hb2⟩
    have HB2 := hide (nnext (unhide HB1) hb2)
    have tx2 := (unhide HTX).next hb2
    have g2 := (unhide HG1).next hb2
    have e1 := g2.c1
    have HTX2 := hide tx2
    have HG2 := hide g2
    clear tx2 g2 hb2 t3
    go_wp2_with fail
    refine (unhide HCG _ (unhide HB2)).mono ?_
    rintro e w3 ⟨rfl, hb3⟩
    have HB3 := hide (nnext (unhide HB2) hb3)
    have tx3 := (unhide HTX2).next hb3
    have g3 := (unhide HG2).next hb3
    have f1 := g3.c1
    have y0 := tx3.c0
    have y2 := tx3.c2
    have y3 := tx3.c3
    have y4 := tx3.c4
    have y6 := tx3.c6
    obtain ⟨g', cap', he, hr, _, _⟩ := g3.nrow (by rw [unhide HE]; simp)
    simp only [Value.slice.injEq, Option.some.injEq, Addr.mk.injEq, and_true] at he
    obtain ⟨rfl, _, rfl⟩ := he
    have r7 := hr.row.n7 (i := A'.length) (x := u) (by rw [unhide HE]; exact nat_at A' u B')
    rw [Nat.zero_add] at r7
    have HTX3 := hide tx3
    have HG3 := hide g3
    clear g3 tx3 hr e1 hb3
    go_wp2_with fail
    go_ret
    exact ⟨rfl, Touch.of_below (unhide HB3)⟩

set_option maxRecDepth 20000 in
set_option maxHeartbeats 4000000 in
theorem cre_ses (F : Nat → Prop) (b : Nat) (z : Int) (vn vs ve : Value) (ns : List Nd) (A B A' B' : List Nd) (u : Nd) (ss : List Int) (es : List Ev) (x : WTxn) (w : World)
    (h : Grow w F b z vn vs ve ns ss es) (G : NGap ns A B x.p) (U : NThere ns A' u B' (dirOf x.p)) (hl : ns.length ≤ 400) (ho : u.o = 0) (hw1 : x.w ≠ 0) (hw2 : x.w ≠ x.s) :
    Calls Tryz.prog 61 #[.pointer (some ⟨b, 0, none⟩), txnV x] w fun e w' => e = .returned (.int .i64 12) ∧ Touch F w w' := by
  obtain ⟨xz, xo, xs, xp, xd, xv, xw⟩ := x
  simp only at G U hw1 hw2
  have CF := fun W (hW : Below w.heap.size w W) => nfind_gap vn ns A B xp W (h.n.next hW).seq (by omega) G
  have HCS := hide (fun W => split_any xp W)
  have HCG := hide (fun W (hW : Below w.heap.size w W) => nfind_there vn ns A' B' u (dirOf xp) W (h.n.next hW).seq (by omega) U)
  have KX : ∀ w1, Below (w.alloc (.cells #[.int .i64 xz, .int .i64 xo, .int .i64 xs, .string ⟨xp.toArray⟩, .string ⟨xd.toArray⟩, .int .i64 xv, .int .i64 xw] 29)).heap.size (w.alloc (.cells #[.int .i64 xz, .int .i64 xo, .int .i64 xs, .string ⟨xp.toArray⟩, .string ⟨xd.toArray⟩, .int .i64 xv, .int .i64 xw] 29)) w1 → TAt w1 w.heap.size ⟨xz, xo, xs, xp, xd, xv, xw⟩ := fun w1 h1 => (TAt.new w ⟨xz, xo, xs, xp, xd, xv, xw⟩).next h1
  have HKX := hide KX
  have c1 := h.c1
  have hbl := h.lt
  obtain ⟨g, cap, rfl, hr, hgb, hFg⟩ := h.nrow (by rw [U.eq]; simp)
  have HG := hide h
  have HE := hide U.eq
  have hlt : A'.length < ns.length := by rw [U.eq]; simp
  have hb1 : (xw != 0) = true := by simpa using hw1
  have hb2 : (xw != xs) = true := by simpa using hw2
  have HO := hide ho
  clear h G U KX ho hr hw1 hw2
  unfold txnV
  go_enter Tryz.func61, Tryz.ntmps61
  go_wp2_with fail
  go_region_law (first
    | (go_simp; refine (CF _ (by first | exact ((Below.refl w.heap.size w).alloc (Nat.le_refl _) _).drew | exact (Below.refl w.heap.size w).alloc (Nat.le_refl _) _)).mono ?_; rintro e w1 ⟨rfl, hb1⟩; have HBd := hide hb1; clear hb1))
  all_goals
    have HB0 := hide (nbelow_drew (unhide HBd))
    clear CF
    have HB1 := hide (nbox_then (unhide HB0))
    have tx := unhide HKX w1 (unhide HB0)
    have t3 := tx.c3
    have HTX := hide tx
    have g1 := (unhide HG).next (unhide HB1)
    have HG1 := hide g1
    clear g1 tx c1
    go_wp2_with fail
    refine (unhide HCS _).mono ?_
    rintro e w2 ⟨rfl, hb2⟩
    have HB2 := hide (nnext (unhide HB1) hb2)
    have tx2 := (unhide HTX).next hb2
    have g2 := (unhide HG1).next hb2
    have e1 := g2.c1
    have HTX2 := hide tx2
    have HG2 := hide g2
    clear tx2 g2 hb2 t3
    go_wp2_with fail
    refine (unhide HCG _ (unhide HB2)).mono ?_
    rintro e w3 ⟨rfl, hb3⟩
    have HB3 := hide (nnext (unhide HB2) hb3)
    have tx3 := (unhide HTX2).next hb3
    have g3 := (unhide HG2).next hb3
    have f1 := g3.c1
    have y0 := tx3.c0
    have y2 := tx3.c2
    have y3 := tx3.c3
    have y4 := tx3.c4
    have y6 := tx3.c6
    obtain ⟨g', cap', he, hr, _, _⟩ := g3.nrow (by rw [unhide HE]; simp)
    simp only [Value.slice.injEq, Option.some.injEq, Addr.mk.injEq, and_true] at he
    obtain ⟨rfl, _, rfl⟩ := he
    have r7 := hr.row.n7 (i := A'.length) (x := u) (by rw [unhide HE]; exact nat_at A' u B')
    rw [Nat.zero_add] at r7
    have HTX3 := hide tx3
    have HG3 := hide g3
    clear g3 tx3 hr e1 hb3
    rw [unhide HO] at r7
    go_wp2_with fail
    go_ret
    exact ⟨rfl, Touch.of_below (unhide HB3)⟩

end Go.Proofs.YtalnmhgedfgooaaGreatDoor
