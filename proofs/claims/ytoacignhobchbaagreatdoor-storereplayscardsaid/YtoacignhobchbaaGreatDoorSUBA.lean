/-
  aviarykeep.played: the walk.
  TreeDeep: the walk.
-/
import Derived.Test.YtoacignhobchbaaGreatDoorSUAZ
import Derived.Test.YtoacignhobchbaaGreatDoorSUAS
import Derived.Test.YtoacignhobchbaaGreatDoorSUAM
import Derived.Test.YtoacignhobchbaaGreatDoorSUAO
import Derived.Test.YtoacignhobchbaaGreatDoorSUAW
namespace Go.Proofs.YtoacignhobchbaaGreatDoor
open Go.RowKit

def qcells (r : Rq) : List Value := [.int .i64 r.o, .int .i64 r.s, .string ⟨r.p.toArray⟩, .string ⟨r.d.toArray⟩, .int .i64 r.v, .int .i64 r.f]
instance layQ : Lay Rq := ⟨6, qcells, 58, fun _ => rfl, fun x u hu => by simp [qcells] at hu; rcases hu with rfl | rfl | rfl | rfl | rfl | rfl <;> rfl⟩
theorem RowAt.q {w : World} {b off : Nat} {xs : List Rq} (h : RowAt w b off (cellsL xs)) {i : Nat} {x : Rq} (hi : xs[i]? = some x) (c : Nat) (hc : c < 6) : ∀ v, (qcells x)[c]? = some v → w.cell? ⟨b, off + i * 6 + c, none⟩ = some v := fun v hv => by
  have := h (i * 6 + c) v (by rw [← hv]; exact cellsL_get xs i x hi c hc)
  rwa [← Nat.add_assoc] at this

/-- what Prepare's statement reads -/
structure DepQ (W : World) (q : Nat) (z : Int) (vn vs : Value) (g o : Nat) (r : Rq) : Prop where
  a : W.heap[q]? = some (.cells #[.int .i64 z, vn, vs] 34 (0, 0))
  l : g < W.heap.size
  c0 : W.cell? ⟨g, o, none⟩ = some (.int .i64 r.o)
  c1 : W.cell? ⟨g, o + 1, none⟩ = some (.int .i64 r.s)
  c2 : W.cell? ⟨g, o + 2, none⟩ = some (.string ⟨r.p.toArray⟩)
  c3 : W.cell? ⟨g, o + 3, none⟩ = some (.string ⟨r.d.toArray⟩)
  c4 : W.cell? ⟨g, o + 4, none⟩ = some (.int .i64 r.v)
  c5 : W.cell? ⟨g, o + 5, none⟩ = some (.int .i64 r.f)
theorem DepQ.next {W V : World} {q : Nat} {z : Int} {vn vs : Value} {g o : Nat} {r : Rq} (h : DepQ W q z vn vs g o r) (hb : Below W.heap.size W V) : DepQ V q z vn vs g o r :=
  ⟨(hb.block _ (Array.getElem?_eq_some_iff.1 h.a).1).trans h.a, Nat.lt_of_lt_of_le h.l hb.size, (hb.cell (p := ⟨g, o, none⟩) h.l).trans h.c0, (hb.cell (p := ⟨g, o + 1, none⟩) h.l).trans h.c1, (hb.cell (p := ⟨g, o + 2, none⟩) h.l).trans h.c2, (hb.cell (p := ⟨g, o + 3, none⟩) h.l).trans h.c3, (hb.cell (p := ⟨g, o + 4, none⟩) h.l).trans h.c4, (hb.cell (p := ⟨g, o + 5, none⟩) h.l).trans h.c5⟩
theorem DepQ.drew {W : World} {q : Nat} {z : Int} {vn vs : Value} {g o : Nat} {r : Rq} (h : DepQ W q z vn vs g o r) : DepQ W.drew q z vn vs g o r := h.next (Below.refl _ _).drew
theorem DepQ.nine {W : World} {q : Nat} {z : Int} {vn vs : Value} {g o : Nat} {r : Rq} (h : DepQ W q z vn vs g o r) : W.cell? ⟨q, 0, none⟩ = some (.int .i64 z) ∧ W.cell? ⟨q, 1, none⟩ = some vn ∧ W.cell? ⟨q, 2, none⟩ = some vs ∧ W.cell? ⟨g, o, none⟩ = some (.int .i64 r.o) ∧ W.cell? ⟨g, o + 1, none⟩ = some (.int .i64 r.s) ∧ W.cell? ⟨g, o + 2, none⟩ = some (.string ⟨r.p.toArray⟩) ∧ W.cell? ⟨g, o + 3, none⟩ = some (.string ⟨r.d.toArray⟩) ∧ W.cell? ⟨g, o + 4, none⟩ = some (.int .i64 r.v) ∧ W.cell? ⟨g, o + 5, none⟩ = some (.int .i64 r.f) := by
  have h1 := h.a
  refine ⟨?_, ?_, ?_, h.c0, h.c1, h.c2, h.c3, h.c4, h.c5⟩ <;> simp [World.cell?, h1]

/-- the tree in its box q, the log so far -/
structure PX (w W : World) (q : Nat) (C : Tr) (m : List WTxn) (vn vs vo : Value) : Prop where
  t : W.heap[q]? = some (.cells #[.int .i64 C.z, vn, vs] 34 (0, 0))
  n : OwnS W w.heap.size vn C.ns
  s : OwnS W w.heap.size vs C.ss
  o : OwnS W w.heap.size vo m
  qb : w.heap.size ≤ q
  b : Below w.heap.size w W
section
variable {w W V : World} {q : Nat} {C : Tr} {m : List WTxn} {vn vs vo : Value}
theorem PX.lt (h : PX w W q C m vn vs vo) : q < W.heap.size := (Array.getElem?_eq_some_iff.1 h.t).1
theorem PX.next (h : PX w W q C m vn vs vo) (hb : Below W.heap.size W V) : PX w V q C m vn vs vo := ⟨(hb.block _ h.lt).trans h.t, h.n.next hb, h.s.next hb, h.o.next hb, h.qb, nnext h.b hb⟩
theorem PX.cells (h : PX w W q C m vn vs vo) : (W.cell? ⟨q, 0, none⟩ = some (.int .i64 C.z) ∧ W.cell? ⟨q, 1, none⟩ = some vn ∧ W.cell? ⟨q, 2, none⟩ = some vs) ∧ W.frozen? ⟨q, 0, none⟩ = false ∧ W.frozen? ⟨q, 1, none⟩ = false ∧ W.frozen? ⟨q, 2, none⟩ = false := by
  have h1 := h.t
  refine ⟨⟨?_, ?_, ?_⟩, ?_, ?_, ?_⟩ <;> simp [World.cell?, World.frozen?, h1]
theorem PX.put (h : PX w W q C m vn vs vo) {T : Tr} {an ai : Value} (n : OwnS W w.heap.size an T.ns) (s : OwnS W w.heap.size ai T.ss) :
    PX w (((W.setCell ⟨q, 0, none⟩ (.int .i64 T.z)).setCell ⟨q, 1, none⟩ an).setCell ⟨q, 2, none⟩ ai) q T m an ai vo := by
  have k1 := own_box n h.t (by decide)
  have k2 := own_box s h.t (by decide)
  have k3 := own_box h.o h.t (by decide)
  refine ⟨?_, ((n.other k1 _).other k1 _).other k1 _, ((s.other k2 _).other k2 _).other k2 _, ((h.o.other k3 _).other k3 _).other k3 _, h.qb, ((h.b.setCell h.qb _).setCell h.qb _).setCell h.qb _⟩
  rw [block_set ai (block_set an (block_set (.int .i64 T.z) h.t))]
  simp
theorem PX.grow {x : WTxn} {vo' : Value} (h : PX w W q C m vn vs vo) (hg : W.grownBy V vo.ownBlock) (ho : OwnS V w.heap.size vo' (m ++ [x])) : PX w V q C (m ++ [x]) vn vs vo' := by
  refine ⟨(hg.block q h.lt (fun e => own_box h.o h.t (by decide) e.symm)).trans h.t, h.n.grown hg (h.n.apart h.o (by decide)), h.s.grown hg (h.s.apart h.o (by decide)), ho, h.qb, ?_⟩
  exact h.b.grown hg h.b.size (fun k e => own_ge h.o e)
theorem TAt.otherS {g : Nat} {x : WTxn} (h : TAt W g x) {a : Addr} (hne : g ≠ a.block) (v : Value) : TAt (W.setCell a v) g x := (Below.heap_setCell W a v g hne).trans h
end

/-- a played log is handed back -/
def GivesPl (w : World) (e : Ending) (w' : World) : Prop := ∃ a c m, e = .returned (.slice a m.length c) ∧ Hid (LogV w' (.slice a m.length c) m ∧ Pld m) ∧ Below w.heap.size w w'

set_option maxRecDepth 20000 in
set_option maxHeartbeats 8000000 in
theorem played_any (v : Value) (rs : List Rq) (w : World) (hv : SeqV w v rs) (hr : ∀ r ∈ rs, r.p.length ≤ 140737488355328 ∧ r.d.length ≤ 140737488355328) (ht : TabP w) :
    Calls Tryz.prog 4 #[v] w (GivesPl w) := by
  obtain ⟨i0, hi0, hz0, hz1, hz2⟩ := info_txn
  have hlen : rs.length ≤ 9223372036854775807 := by
    rcases hv with ⟨_, _, _, rfl, _⟩ | ⟨_, _, _, _, h1, h2, _⟩
    · simp
    · simp only [maxLen] at h2; omega
  have HQL := hide (fun W (hW : Below w.heap.size w W) (i : Nat) (x : Rq) (hx : rs[i]? = some x) => (show ∃ g off c, v = .slice (some ⟨g, off, none⟩) rs.length c ∧ g < w.heap.size ∧ RowAt W g off (cellsL rs) from by
    obtain ⟨b, off, c, e, hb, h2, _, _⟩ := seq_row hv (by intro h0; rw [h0] at hx; simp at hx)
    exact ⟨b, off, c, e, hb, h2.kept hW hb⟩))
  have HRS := hide hr
  have HTB := hide (fun W (hW : Below w.heap.size w W) => ht.next hW)
  obtain ⟨la, lc, rfl⟩ := seq_slice hv
  clear hv hr ht
  go_enter Tryz.func4, Tryz.ntmps4
  go_wp2_with fail
  refine (tnew_any _).mono ?_
  rintro e w1 ⟨vn1, vs1, rfl, n1, s1, hb1⟩
  obtain ⟨an1, cn1, rfl, _⟩ := n1.slice
  obtain ⟨ai1, ci1, rfl, _⟩ := s1.slice
  have P0 : Hid (PX w (w1.alloc (.cells #[.int .i64 trNew.z, .slice an1 trNew.ns.length cn1, .slice ai1 trNew.ss.length ci1] 34)) w1.heap.size trNew [] (.slice an1 trNew.ns.length cn1) (.slice ai1 trNew.ss.length ci1) (.slice none 0 0)) :=
    hide ⟨heap_alloc_new w1 _, n1.next (allocB _ _), s1.next (allocB _ _), .inl ⟨rfl, rfl⟩, hb1.size, nnext hb1 (allocB _ _)⟩
  clear n1 s1 hb1
  go_upto_region 2 with fail
  generalize w1.heap.size = q at *
  generalize w1.alloc (.cells #[.int .i64 trNew.z, .slice an1 trNew.ns.length cn1, .slice ai1 trNew.ss.length ci1] 34) = W1 at *
  go_wp2_with fail
  go_loopg [4, 5] rs.length (fun kx s4 s5 wr => ∃ (k : Nat) (m : List WTxn) (C : Tr) (a1 : Option Addr) (c1 : Nat) (an : Option Addr) (cn : Nat) (ai : Option Addr) (ci : Nat), s4 = .slice a1 m.length c1 ∧ s5 = .int .i64 k ∧ k ≤ rs.length ∧ rs.length - k ≤ kx ∧ m.length ≤ 40 ∧ Hid (Pld m ∧ C = trAt m m.length) ∧ Hid (PX w wr q C m (.slice an C.ns.length cn) (.slice ai C.ss.length ci) (.slice a1 m.length c1)))
  case atStart => exact ⟨0, [], trNew, none, 0, an1, cn1, ai1, ci1, rfl, rfl, Nat.zero_le _, Nat.le_refl _, by simp, hide ⟨pld_nil, by simp [trAt]⟩, P0⟩
  case round =>
    obtain ⟨k, m, C, a1, c1, an, cn, ai, ci, rfl, rfl, hk, hkx, hm, HP, HX⟩ := hrel
    clear P0
    by_cases hlt : k < rs.length ∧ m.length < 40
    · obtain ⟨r, hr⟩ : ∃ r, rs[k]? = some r := ⟨_, List.getElem?_eq_getElem hlt.1⟩
      obtain ⟨lb, lo, lc', he, hlb, hrow⟩ := unhide HQL wr (unhide HX).b k r hr
      simp only [Value.slice.injEq, true_and] at he
      obtain ⟨rfl, rfl⟩ := he
      have hsz := (unhide HX).b.size
      have R0 : Hid (DepQ wr q C.z (.slice an C.ns.length cn) (.slice ai C.ss.length ci) lb (lo + k * 6) r) := hide ⟨(unhide HX).t, by omega, hrow.q hr 0 (by omega) _ rfl, hrow.q hr 1 (by omega) _ rfl, hrow.q hr 2 (by omega) _ rfl, hrow.q hr 3 (by omega) _ rfl, hrow.q hr 4 (by omega) _ rfl, hrow.q hr 5 (by omega) _ rfl⟩
      have hrs := unhide HRS r (List.mem_of_getElem? hr)
      have gC : GoodT C := by rw [(unhide HP).2]; exact pld_good (unhide HP).1 (Nat.le_refl _)
      have CQ := hide (fun W (hW : Below wr.heap.size wr W) (vn vs : Value) (hn : SeqV W vn C.ns) (hs : SeqV W vs C.ss) => prepare_any C (1 + m.length) vn vs r W hn hs gC.wf hrs.1 hrs.2 (unhide HTB _ (nnext (unhide HX).b hW)))
      have CA := hide (fun (W : World) (vn vs : Value) (hn : SeqV W vn C.ns) (hs : SeqV W vs C.ss) => apply_any C vn vs (prpX C (1 + m.length) r) W hn hs gC.wf (by
        by_cases h : prpE C (1 + m.length) r = 0
        · rw [prpX_ok h]; have := filX_d C (1 + m.length) r; omega
        · rw [prpX_no h]; decide))
      have KP := hide (fun (h : prpE C (1 + m.length) r = 0) => And.intro (fits_plain (t := C) (z := 1 + m.length) (r := r) h).app (show Pld (m ++ [prpX C (1 + m.length) r]) ∧ appT C (prpX C (1 + m.length) r) = trAt (m ++ [prpX C (1 + m.length) r]) (m.length + 1) from by
        have e := (unhide HP).2
        refine ⟨pld_snoc (unhide HP).1 hlt.2 (by rw [← e]; exact h) (by rw [← e]), ?_⟩
        rw [trAt_succ (x := prpX C (1 + m.length) r) (by simp), trAt_app m _ (Nat.le_refl _), ← e]))
      unfold GivesP at CQ
      unfold GivesA at CA
      obtain ⟨T, hT⟩ : ∃ T, appT C (prpX C (1 + m.length) r) = T := ⟨_, rfl⟩
      obtain ⟨V, hV⟩ : ∃ V, appV C (prpX C (1 + m.length) r) = V := ⟨_, rfl⟩
      obtain ⟨A, hA⟩ : ∃ A, appE C (prpX C (1 + m.length) r) = A := ⟨_, rfl⟩
      obtain ⟨E, hE⟩ : ∃ E, prpE C (1 + m.length) r = E := ⟨_, rfl⟩
      rw [hT, hV, hA] at CA
      rw [hT, hA, hE] at KP
      rw [hE] at CQ
      clear hT hV hA hE
      obtain ⟨X, hX⟩ : ∃ X, prpX C (1 + m.length) r = X := ⟨_, rfl⟩
      rw [hX] at CA KP CQ
      clear hX
      obtain ⟨ro, rw', rp, rd, rv, rf⟩ := r
      obtain ⟨xz, xo, xs, xp, xd, xv, xw⟩ := X
      unfold rqV txnV at CQ
      unfold txnV at CA
      simp only at R0 CQ CA
      have hkk : (k : Int) < (rs.length : Int) := by omega
      have hmm : (m.length : Int) < 40 := by omega
      have hwm : IntKind.i64.wrap (1 + (m.length : Int)) = 1 + (m.length : Int) := by rw [IntKind.wrap_i64]; omega
      have hqlt := (unhide HX).lt
      clear hr hrow hrs gC
      go_upto_region 6 with fail
      go_cut [6, 7] from 9 to 46 (fun t6 t7 wx => ∃ p, t6 = .pointer (some ⟨p, 0, none⟩) ∧ t7 = .int .i64 E ∧ Hid (PrX wr wx p ⟨xz, xo, xs, xp, xd, xv, xw⟩))
      case first =>
        clear HQL HRS HTB KP CA
        go_region_held3 (fun w' => w'.cell? ⟨q, 0, none⟩ = some (.int .i64 C.z) ∧ w'.cell? ⟨q, 1, none⟩ = some (.slice an C.ns.length cn) ∧ w'.cell? ⟨q, 2, none⟩ = some (.slice ai C.ss.length ci) ∧ w'.cell? ⟨lb, lo + k * 6, none⟩ = some (.int .i64 ro) ∧ w'.cell? ⟨lb, lo + k * 6 + 1, none⟩ = some (.int .i64 rw') ∧ w'.cell? ⟨lb, lo + k * 6 + 2, none⟩ = some (.string ⟨rp.toArray⟩) ∧ w'.cell? ⟨lb, lo + k * 6 + 3, none⟩ = some (.string ⟨rd.toArray⟩) ∧ w'.cell? ⟨lb, lo + k * 6 + 4, none⟩ = some (.int .i64 rv) ∧ w'.cell? ⟨lb, lo + k * 6 + 5, none⟩ = some (.int .i64 rf)) (first | with_reducible exact (unhide R0).nine | with_reducible exact (unhide R0).drew.nine | with_reducible exact ((unhide R0).next (allocB _ _)).nine | with_reducible exact ((unhide R0).next (allocB _ _)).drew.nine | with_reducible exact ((unhide R0).drew.next (allocB _ _)).nine | with_reducible exact (unhide aX2).nine | with_reducible exact ((unhide aX2).next (allocB _ _)).nine | with_reducible exact ((unhide R0).next (unhide aP2).b).nine) (first
          | (go_at_call 14; refine (unhide CQ _ (by first | with_reducible exact (Below.refl _ _).drew | with_reducible exact (allocB _ _).drew | with_reducible exact nnext (Below.refl _ _).drew (allocB _ _)) _ _ ((unhide HX).n.seq.next (by first | with_reducible exact (Below.refl _ _).drew | with_reducible exact (allocB _ _).drew | with_reducible exact nnext (Below.refl _ _).drew (allocB _ _))) ((unhide HX).s.seq.next (by first | with_reducible exact (Below.refl _ _).drew | with_reducible exact (allocB _ _).drew | with_reducible exact nnext (Below.refl _ _).drew (allocB _ _)))).mono ?_; rintro e aw2 ⟨rfl, hb2⟩; have aB2 : Hid (Below wr.heap.size wr aw2) := hide (nnext (by first | with_reducible exact (Below.refl _ _).drew | with_reducible exact (allocB _ _).drew | with_reducible exact nnext (Below.refl _ _).drew (allocB _ _)) hb2); have aX2 := hide ((unhide R0).next (unhide aB2)); have ah2 := (unhide aB2).size; (try (have aZ2 : Hid (TAt aw2 wr.heap.size t0) := hide ((hb2.block _ (by simp)).trans (heap_alloc_new wr _)); have aP2 := hide (px_putF xz xo xs xp xd xv xw (unhide aB2) (Nat.le_refl _) (unhide aZ2)); obtain ⟨⟨az0, az1, az2, az3, az4, az5, az6⟩, af0, af1, af2, af3, af4, af5, af6⟩ := zcells7 (unhide aZ2))); clear hb2))
        all_goals go_wp2_with fail
        all_goals go_meet
        all_goals refine ⟨_, rfl, rfl, hide ?_⟩
        all_goals first
          | with_reducible exact px_newF xz xo xs xp xd xv xw (unhide aB2)
          | with_reducible exact unhide aP2
          | with_reducible exact px_putF xz xo xs xp xd xv xw (unhide aB2) (Nat.le_refl _) (unhide aZ2)
      case rest =>
        obtain ⟨p, rfl, rfl, A1⟩ := hcut
        have X1 := hide ((unhide HX).next (unhide A1).b)
        have hpq : p ≠ q := by have := (unhide A1).qb; omega
        clear R0 CQ HX
        by_cases hE : E = 0
        · subst hE
          obtain ⟨rfl, hpl, hTe⟩ := unhide KP rfl
          have HPL := hide hpl
          have HTE := hide hTe
          have C3 := unhide CA wc _ _ (unhide X1).n.seq (unhide X1).s.seq
          obtain ⟨⟨t0', t1', t2'⟩, tf0, tf1, tf2⟩ := (unhide X1).cells
          obtain ⟨b0, b1, b2, b3, b4, b5, b6⟩ := (unhide A1).box.seven
          simp only at b0 b1 b2 b3 b4 b5 b6
          clear KP CA hpl hTe
          go_wp2_with fail
          refine C3.mono ?_
          rintro e w5 ⟨vn5, vs5, ve5, rfl, n5, s5, e5, hb5⟩
          obtain ⟨bn, dn, rfl, _⟩ := n5.slice
          obtain ⟨bi, di, rfl, _⟩ := s5.slice
          obtain ⟨be, de, rfl, _⟩ := e5.slice
          have X2 := hide ((unhide X1).next hb5)
          have hbs := (unhide X1).b.size
          have X3 := hide ((unhide X2).put (n5.lower hbs) (s5.lower hbs))
          have T2 := (unhide A1).box.next hb5
          have T3 := hide ((((T2.otherS (a := ⟨q, 0, none⟩) hpq (.int .i64 T.z)).otherS (a := ⟨q, 1, none⟩) hpq (.slice bn T.ns.length dn)).otherS (a := ⟨q, 2, none⟩) hpq (.slice bi T.ss.length di)))
          obtain ⟨⟨u0, u1, u2⟩, uf0, uf1, uf2⟩ := (unhide X2).cells
          have hq5 := (unhide X2).lt
          clear n5 s5 e5 hb5 T2 X1 A1 C3 t0' t1' t2' tf0 tf1 tf2 b0 b1 b2 b3 b4 b5 b6
          go_upto_region 9 with fail
          generalize ((w5.setCell ⟨q, 0, none⟩ (.int .i64 T.z)).setCell ⟨q, 1, none⟩ (.slice bn T.ns.length dn)).setCell ⟨q, 2, none⟩ (.slice bi T.ss.length di) = W5 at *
          clear X2 u0 u1 u2 uf0 uf1 uf2 hq5
          obtain ⟨b0, b1, b2, b3, b4, b5, b6⟩ := (unhide T3).seven
          simp only at b0 b1 b2 b3 b4 b5 b6
          have HN := hide (one_newX W5 ⟨xz, xo, xs, xp, xd, xv, xw⟩)
          have X4 := hide (fun O => (unhide X3).next (allocB W5 O))
          have h5 : Hid ((m.length + 1) * 72 ≤ 140737488355328) := hide (by omega)
          have h4 : Hid (m.length + 1 ≤ maxLen) := hide (by simp only [maxLen]; omega)
          have h6 : Hid (∀ O1, w.heap.size ≤ (W5.alloc O1).heap.size) := hide (fun O1 => by have := (unhide X3).b.size; simp; omega)
          simp only at HN
          go_wp2_with (at_builtin; refine wpList_app1 rfl _ _ 24 rfl i0 _ 72 Tryz.underlying24 hi0 hz0 hz1 hz2 rfl (by decide) _ m rfl w.heap.size (unhide X4 _).o W5.heap.size rfl ⟨xz, xo, xs, xp, xd, xv, xw⟩ (unhide HN) (unhide h5) (unhide h4) (unhide h6 _) ?_)
          intro a6 c6 w6 ho6 hg6
          have X6 := hide ((unhide X4 _).grow hg6 ho6)
          clear ho6 hg6 X3 X4 T3 HN h4 h5 h6 b0 b1 b2 b3 b4 b5 b6
          go_wp2_with fail
          go_roundg (rs.length - (k + 1))
          case measure => omega
          case rel =>
            have e1 : (m ++ [(⟨xz, xo, xs, xp, xd, xv, xw⟩ : WTxn)]).length = m.length + 1 := by simp
            exact ⟨k + 1, m ++ [⟨xz, xo, xs, xp, xd, xv, xw⟩], T, a6, c6, bn, dn, bi, di, by rw [e1], by simp, by omega, Nat.le_refl _, by rw [e1]; omega, hide ⟨unhide HPL, by rw [e1]; exact unhide HTE⟩, by rw [e1]; exact X6⟩
        · have hEb : (E == 0) = false := by simpa using hE
          clear KP CA hE
          go_wp2_with fail
          go_roundg (rs.length - (k + 1))
          case measure => omega
          case rel => exact ⟨k + 1, m, C, a1, c1, an, cn, ai, ci, rfl, by simp, by omega, Nat.le_refl _, hm, HP, X1⟩
    · by_cases h1 : k < rs.length
      · have h2 : ¬ (m.length : Int) < 40 := by omega
        have h3 : (k : Int) < (rs.length : Int) := by omega
        go_wp2_with fail
        go_ret
        exact ⟨_, _, m, rfl, hide ⟨seq_log.1 (unhide HX).o.seq, (unhide HP).1⟩, (unhide HX).b⟩
      · have h3 : ¬ (k : Int) < (rs.length : Int) := by omega
        go_wp2_with fail
        go_ret
        exact ⟨_, _, m, rfl, hide ⟨seq_log.1 (unhide HX).o.seq, (unhide HP).1⟩, (unhide HX).b⟩
end Go.Proofs.YtoacignhobchbaaGreatDoor

namespace Go.Proofs.YtoacignhobchbaaGreatDoor
open Go.RowKit

/-- a box q holds a good tree -/
structure CurT (w wr : World) (q : Nat) (C : Tr) (vn vs : Value) : Prop where
  box : wr.heap[q]? = some (.cells #[.int .i64 C.z, vn, vs] 34 (0, 0))
  n : SeqV wr vn C.ns
  s : SeqV wr vs C.ss
  good : GoodT C
  qb : w.heap.size ≤ q
  b : Below w.heap.size w wr
theorem CurT.lt {w wr : World} {q : Nat} {C : Tr} {vn vs : Value} (h : CurT w wr q C vn vs) : q < wr.heap.size := (Array.getElem?_eq_some_iff.1 h.box).1
theorem CurT.next {w wr V : World} {q : Nat} {C : Tr} {vn vs : Value} (h : CurT w wr q C vn vs) (hb : Below wr.heap.size wr V) : CurT w V q C vn vs :=
  ⟨(hb.block _ h.lt).trans h.box, h.n.next hb, h.s.next hb, h.good, h.qb, nnext h.b hb⟩
theorem CurT.cells {w wr : World} {q : Nat} {C : Tr} {vn vs : Value} (h : CurT w wr q C vn vs) : wr.cell? ⟨q, 0, none⟩ = some (.int .i64 C.z) ∧ wr.cell? ⟨q, 1, none⟩ = some vn ∧ wr.cell? ⟨q, 2, none⟩ = some vs ∧ wr.frozen? ⟨q, 0, none⟩ = false ∧ wr.frozen? ⟨q, 1, none⟩ = false ∧ wr.frozen? ⟨q, 2, none⟩ = false := by
  have h1 := h.box
  refine ⟨?_, ?_, ?_, ?_, ?_, ?_⟩ <;> simp [World.cell?, World.frozen?, h1]
/-- a new tree is stored in the box -/
theorem CurT.put {w wr W : World} {q : Nat} {C T : Tr} {vn vs un us : Value} {B : Nat} (h : CurT w wr q C vn vs) (hB : q < B) (n : OwnS wr B un T.ns) (s : OwnS wr B us T.ss) (g : GoodT T) (hW : W = ((wr.setCell ⟨q, 0, none⟩ (.int .i64 T.z)).setCell ⟨q, 1, none⟩ un).setCell ⟨q, 2, none⟩ us) : CurT w W q T un us := by
  subst hW
  have no : ∀ {α : Type} [Lay α] {v : Value} {xs : List α}, OwnS wr B v xs → v.ownBlock ≠ some q := by
    intro α _ v xs ho e
    rcases ho with ⟨rfl, _⟩ | ⟨g, cap, rfl, hB, _⟩
    · cases e
    · simp [Value.ownBlock] at e; omega
  refine ⟨?_, ((((n.other (no n) _).other (no n) _).other (no n) _)).seq, ((((s.other (no s) _).other (no s) _).other (no s) _)).seq, g, h.qb, ((h.b.setCell h.qb _).setCell h.qb _).setCell h.qb _⟩
  rw [block_set us (block_set un (block_set (.int .i64 T.z) h.box))]
  simp
/-- what Apply's statement reads -/
structure DepR (W : World) (q : Nat) (z : Int) (vn vs : Value) (g o : Nat) (x : WTxn) : Prop where
  a : W.heap[q]? = some (.cells #[.int .i64 z, vn, vs] 34 (0, 0))
  l : g < W.heap.size
  c0 : W.cell? ⟨g, o, none⟩ = some (.int .i64 x.z)
  c1 : W.cell? ⟨g, o + 1, none⟩ = some (.int .i64 x.o)
  c2 : W.cell? ⟨g, o + 2, none⟩ = some (.int .i64 x.s)
  c3 : W.cell? ⟨g, o + 3, none⟩ = some (.string ⟨x.p.toArray⟩)
  c4 : W.cell? ⟨g, o + 4, none⟩ = some (.string ⟨x.d.toArray⟩)
  c5 : W.cell? ⟨g, o + 5, none⟩ = some (.int .i64 x.v)
  c6 : W.cell? ⟨g, o + 6, none⟩ = some (.int .i64 x.w)
theorem DepR.next {W V : World} {q : Nat} {z : Int} {vn vs : Value} {g o : Nat} {x : WTxn} (h : DepR W q z vn vs g o x) (hb : Below W.heap.size W V) : DepR V q z vn vs g o x :=
  ⟨(hb.block _ (Array.getElem?_eq_some_iff.1 h.a).1).trans h.a, Nat.lt_of_lt_of_le h.l hb.size, (hb.cell (p := ⟨g, o, none⟩) h.l).trans h.c0, (hb.cell (p := ⟨g, o + 1, none⟩) h.l).trans h.c1, (hb.cell (p := ⟨g, o + 2, none⟩) h.l).trans h.c2, (hb.cell (p := ⟨g, o + 3, none⟩) h.l).trans h.c3, (hb.cell (p := ⟨g, o + 4, none⟩) h.l).trans h.c4, (hb.cell (p := ⟨g, o + 5, none⟩) h.l).trans h.c5, (hb.cell (p := ⟨g, o + 6, none⟩) h.l).trans h.c6⟩
theorem DepR.drew {W : World} {q : Nat} {z : Int} {vn vs : Value} {g o : Nat} {x : WTxn} (h : DepR W q z vn vs g o x) : DepR W.drew q z vn vs g o x := h.next (Below.refl _ _).drew
theorem DepR.ten {W : World} {q : Nat} {z : Int} {vn vs : Value} {g o : Nat} {x : WTxn} (h : DepR W q z vn vs g o x) : W.cell? ⟨q, 0, none⟩ = some (.int .i64 z) ∧ W.cell? ⟨q, 1, none⟩ = some vn ∧ W.cell? ⟨q, 2, none⟩ = some vs ∧ W.cell? ⟨g, o, none⟩ = some (.int .i64 x.z) ∧ W.cell? ⟨g, o + 1, none⟩ = some (.int .i64 x.o) ∧ W.cell? ⟨g, o + 2, none⟩ = some (.int .i64 x.s) ∧ W.cell? ⟨g, o + 3, none⟩ = some (.string ⟨x.p.toArray⟩) ∧ W.cell? ⟨g, o + 4, none⟩ = some (.string ⟨x.d.toArray⟩) ∧ W.cell? ⟨g, o + 5, none⟩ = some (.int .i64 x.v) ∧ W.cell? ⟨g, o + 6, none⟩ = some (.int .i64 x.w) := by
  have h1 := h.a
  refine ⟨?_, ?_, ?_, h.c0, h.c1, h.c2, h.c3, h.c4, h.c5, h.c6⟩ <;> simp [World.cell?, h1]

end Go.Proofs.YtoacignhobchbaaGreatDoor
