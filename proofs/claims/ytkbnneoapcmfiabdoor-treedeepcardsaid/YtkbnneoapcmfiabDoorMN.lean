/-
  TreeDeep: the walk.
  A log as an argument (beside trees): opened into its transactions; what its weights say of their lengths.
-/
import Derived.Test.YtkbnneoapcmfiabDoorMI
import Derived.Test.YtkbnneoapcmfiabDoorMC
namespace Go.Proofs.YtkbnneoapcmfiabDoor
open Go.RowKit

/-- a box q holds a good tree -/
structure CurT (w wr : World) (q : Nat) (C : Tr) (vn vs : Value) : Prop where
  box : wr.heap[q]? = some (.cells #[.int .i64 C.z, vn, vs] 27 (0, 0))
  n : SeqV wr vn C.ns
  s : SeqV wr vs C.ss
  good : GoodT C
  qb : w.heap.size ≤ q
  b : Below w.heap.size w wr
theorem CurT.lt {w wr : World} {q : Nat} {C : Tr} {vn vs : Value} (h : CurT w wr q C vn vs) : q < wr.heap.size := (Array.getElem?_eq_some_iff.1 h.box).1
theorem CurT.next {w wr V : World} {q : Nat} {C : Tr} {vn vs : Value} (h : CurT w wr q C vn vs) (hb : Below wr.heap.size wr V) : CurT w V q C vn vs :=
  ⟨(hb.block _ h.lt).trans h.box, h.n.next hb, h.s.next hb, h.good, h.qb, nnext h.b hb⟩
theorem CurT.cells {w wr : World} {q : Nat} {C : Tr} {vn vs : Value} (h : CurT w wr q C vn vs) : wr.cell? ⟨q, 0, none⟩ = some (.int .i64 C.z) ∧ wr.cell? ⟨q, 1, none⟩ = some vn ∧ wr.cell? ⟨q, 2, none⟩ = some vs ∧ wr.frozen? ⟨q, 0, none⟩ = false ∧ wr.frozen? ⟨q, 1, none⟩ = false ∧ wr.frozen? ⟨q, 2, none⟩ = false := by
  have h1 := h.box
  refine ⟨?_, ?_, ?_, ?_, ?_, ?_⟩ <;> simp [World.cell?, World.frozen?, h1]
/-- a new tree is stored in the box -/
theorem CurT.put {w wr W : World} {q : Nat} {C T : Tr} {vn vs un us : Value} {B : Nat} (h : CurT w wr q C vn vs) (hB : q < B) (n : OwnS wr B un T.ns) (s : OwnS wr B us T.ss) (g : GoodT T) (hW : W = ((wr.setCell ⟨q, 0, none⟩ (.int .i64 T.z)).setCell ⟨q, 1, none⟩ un).setCell ⟨q, 2, none⟩ us) : CurT w W q T un us := by
  subst hW
  have no : ∀ {α : Type} [Lay α] {v : Value} {xs : List α}, OwnS wr B v xs → v.ownBlock ≠ some q := by
    intro α _ v xs ho e
    rcases ho with ⟨rfl, _⟩ | ⟨g, cap, rfl, hB, _⟩
    · cases e
    · simp [Value.ownBlock] at e; omega
  refine ⟨?_, ((((n.other (no n) _).other (no n) _).other (no n) _)).seq, ((((s.other (no s) _).other (no s) _).other (no s) _)).seq, g, h.qb, ((h.b.setCell h.qb _).setCell h.qb _).setCell h.qb _⟩
  rw [block_set us (block_set un (block_set (.int .i64 T.z) h.box))]
  simp
/-- what Apply's statement reads -/
structure DepR (W : World) (q : Nat) (z : Int) (vn vs : Value) (g o : Nat) (x : WTxn) : Prop where
  a : W.heap[q]? = some (.cells #[.int .i64 z, vn, vs] 27 (0, 0))
  l : g < W.heap.size
  c0 : W.cell? ⟨g, o, none⟩ = some (.int .i64 x.z)
  c1 : W.cell? ⟨g, o + 1, none⟩ = some (.int .i64 x.o)
  c2 : W.cell? ⟨g, o + 2, none⟩ = some (.int .i64 x.s)
  c3 : W.cell? ⟨g, o + 3, none⟩ = some (.string ⟨x.p.toArray⟩)
  c4 : W.cell? ⟨g, o + 4, none⟩ = some (.string ⟨x.d.toArray⟩)
  c5 : W.cell? ⟨g, o + 5, none⟩ = some (.int .i64 x.v)
  c6 : W.cell? ⟨g, o + 6, none⟩ = some (.int .i64 x.w)
theorem DepR.next {W V : World} {q : Nat} {z : Int} {vn vs : Value} {g o : Nat} {x : WTxn} (h : DepR W q z vn vs g o x) (hb : Below W.heap.size W V) : DepR V q z vn vs g o x :=
  ⟨(hb.block _ (Array.getElem?_eq_some_iff.1 h.a).1).trans h.a, Nat.lt_of_lt_of_le h.l hb.size, (hb.cell (p := ⟨g, o, none⟩) h.l).trans h.c0, (hb.cell (p := ⟨g, o + 1, none⟩) h.l).trans h.c1, (hb.cell (p := ⟨g, o + 2, none⟩) h.l).trans h.c2, (hb.cell (p := ⟨g, o + 3, none⟩) h.l).trans h.c3, (hb.cell (p := ⟨g, o + 4, none⟩) h.l).trans h.c4, (hb.cell (p := ⟨g, o + 5, none⟩) h.l).trans h.c5, (hb.cell (p := ⟨g, o + 6, none⟩) h.l).trans h.c6⟩
theorem DepR.drew {W : World} {q : Nat} {z : Int} {vn vs : Value} {g o : Nat} {x : WTxn} (h : DepR W q z vn vs g o x) : DepR W.drew q z vn vs g o x := h.next (Below.refl _ _).drew
theorem DepR.ten {W : World} {q : Nat} {z : Int} {vn vs : Value} {g o : Nat} {x : WTxn} (h : DepR W q z vn vs g o x) : W.cell? ⟨q, 0, none⟩ = some (.int .i64 z) ∧ W.cell? ⟨q, 1, none⟩ = some vn ∧ W.cell? ⟨q, 2, none⟩ = some vs ∧ W.cell? ⟨g, o, none⟩ = some (.int .i64 x.z) ∧ W.cell? ⟨g, o + 1, none⟩ = some (.int .i64 x.o) ∧ W.cell? ⟨g, o + 2, none⟩ = some (.int .i64 x.s) ∧ W.cell? ⟨g, o + 3, none⟩ = some (.string ⟨x.p.toArray⟩) ∧ W.cell? ⟨g, o + 4, none⟩ = some (.string ⟨x.d.toArray⟩) ∧ W.cell? ⟨g, o + 5, none⟩ = some (.int .i64 x.v) ∧ W.cell? ⟨g, o + 6, none⟩ = some (.int .i64 x.w) := by
  have h1 := h.a
  refine ⟨?_, ?_, ?_, h.c0, h.c1, h.c2, h.c3, h.c4, h.c5, h.c6⟩ <;> simp [World.cell?, h1]

set_option maxRecDepth 20000 in
set_option maxHeartbeats 8000000 in
theorem treeDeep_walk (ts : List WTxn) (v : Value) (w : World) (hv : LogV w v ts) (hsl : ∀ t ∈ ts, t.d.length ≤ 140737488355328) (hln : ts.length ≤ 140737488355328) :
    Calls Tryd.prog 3 #[v] w fun e w' => e = .returned (.bool true) ∧ Below w.heap.size w w' := by
  have CA := hide (fun (C : Tr) (g : GoodT C) (x : WTxn) (hx : x.d.length ≤ 140737488355328) (W : World) (vn vs : Value) (hn : SeqV W vn C.ns) (hs : SeqV W vs C.ss) => apply_any C vn vs x W hn hs g.wf hx)
  unfold GivesA txnV at CA
  have CG := hide (fun (C : Tr) (g : GoodT C) (W : World) (vn vs : Value) (hn : SeqV W vn C.ns) (hs : SeqV W vs C.ss) => (show Calls Tryd.prog 12 #[.agg #[.int .i64 C.z, vn, vs]] W (fun e w' => e = .returned (.bool true) ∧ Below W.heap.size W w') from by have := tgood_any C vn vs W hn hs g.wf; rwa [goodT_true.2 g] at this))
  have KL : ∀ W, Below w.heap.size w W → ∀ (i : Nat) (x : WTxn), ts[i]? = some x → ∃ g off c, v = .slice (some ⟨g, off, none⟩) ts.length c ∧ g < w.heap.size ∧ W.cell? ⟨g, off + i * 7, none⟩ = some (.int .i64 x.z) ∧ W.cell? ⟨g, off + i * 7 + 1, none⟩ = some (.int .i64 x.o) ∧ W.cell? ⟨g, off + i * 7 + 2, none⟩ = some (.int .i64 x.s) ∧ W.cell? ⟨g, off + i * 7 + 3, none⟩ = some (.string ⟨x.p.toArray⟩) ∧ W.cell? ⟨g, off + i * 7 + 4, none⟩ = some (.string ⟨x.d.toArray⟩) ∧ W.cell? ⟨g, off + i * 7 + 5, none⟩ = some (.int .i64 x.v) ∧ W.cell? ⟨g, off + i * 7 + 6, none⟩ = some (.int .i64 x.w) := by
    intro W hW i x hx
    obtain ⟨g, off, c, e, hg, hr, _⟩ := log_row hv hx
    have hr' := hr.kept hW hg
    exact ⟨g, off, c, e, hg, hr'.z hx, hr'.o hx, hr'.s hx, hr'.p hx, hr'.d hx, hr'.v hx, hr'.w hx⟩
  have HKL := hide KL
  obtain ⟨la, lc, rfl⟩ := log_slice hv
  have HSL := hide hsl
  clear hv KL hsl
  go_enter Tryd.func3, Tryd.ntmps3
  go_wp2_with fail
  refine (grows_true _).mono ?_
  rintro e w1 ⟨rfl, hb1⟩
  have B1 := hide hb1
  clear hb1
  go_wp2_with fail
  refine (tnew_any _).mono ?_
  rintro e w2 ⟨vn2, vs2, rfl, n2, s2, hb2⟩
  obtain ⟨an2, cn2, rfl, _⟩ := n2.slice
  obtain ⟨ai2, ci2, rfl, _⟩ := s2.slice
  have C0 : Hid (CurT w (w2.alloc (.cells #[.int .i64 trNew.z, .slice an2 trNew.ns.length cn2, .slice ai2 trNew.ss.length ci2] 27)) w2.heap.size trNew (.slice an2 trNew.ns.length cn2) (.slice ai2 trNew.ss.length ci2)) := ⟨heap_alloc_new w2 _, n2.seq.next (allocB _ _), s2.seq.next (allocB _ _), good_new, (nnext (unhide B1) hb2).size, nnext (nnext (unhide B1) hb2) (allocB _ _)⟩
  clear n2 s2 hb2 B1
  go_wp2_with fail
  obtain ⟨W3, hW3⟩ : ∃ W3, w2.alloc (.cells #[.int .i64 trNew.z, .slice an2 trNew.ns.length cn2, .slice ai2 trNew.ss.length ci2] 27) = W3 := ⟨_, rfl⟩
  rw [hW3] at C0 ⊢
  obtain ⟨q, hq⟩ : ∃ q, w2.heap.size = q := ⟨_, rfl⟩
  rw [hq] at C0 ⊢
  clear hW3 hq
  go_loopg [4] ts.length (fun kx s4 wr => ∃ (k : Nat) (C : Tr) (an : Option Addr) (cn : Nat) (ai : Option Addr) (ci : Nat), s4 = .int .i64 k ∧ k ≤ ts.length ∧ k ≤ 80 ∧ ts.length - k ≤ kx ∧ Hid (CurT w wr q C (.slice an C.ns.length cn) (.slice ai C.ss.length ci)))
  case atStart => exact ⟨0, trNew, an2, cn2, ai2, ci2, rfl, Nat.zero_le _, Nat.zero_le _, Nat.le_refl _, C0⟩
  case round =>
    obtain ⟨k, C, an, cn, ai, ci, rfl, hk, hk80, hg, hC⟩ := hrel
    obtain ⟨c0, c1, c2, f0, f1, f2⟩ := (unhide hC).cells
    have hql := (unhide hC).lt
    have hqb := (unhide hC).qb
    clear C0
    by_cases hlt : k < ts.length
    · by_cases h80 : k < 80
      · obtain ⟨x, hx⟩ : ∃ x, ts[k]? = some x := ⟨_, List.getElem?_eq_getElem hlt⟩
        obtain ⟨lb, lo, lc', he, hlb, l0, l1, l2, l3, l4, l5, l6⟩ := unhide HKL wr (unhide hC).b k x hx
        simp only [Value.slice.injEq] at he
        obtain ⟨rfl, _, rfl⟩ := he
        have hxd := unhide HSL x (List.mem_of_getElem? hx)
        have hsz := (unhide hC).b.size
        have R0 : Hid (DepR wr q C.z (.slice an C.ns.length cn) (.slice ai C.ss.length ci) lb (lo + k * 7) x) := ⟨(unhide hC).box, by omega, l0, l1, l2, l3, l4, l5, l6⟩
        have CX := hide (fun W vn vs (hn : SeqV W vn C.ns) (hs : SeqV W vs C.ss) => unhide CA C (unhide hC).good x hxd W vn vs hn hs)
        obtain ⟨T, hT⟩ : ∃ T, appT C x = T := ⟨_, rfl⟩
        obtain ⟨V, hV⟩ : ∃ V, appV C x = V := ⟨_, rfl⟩
        obtain ⟨E, hE⟩ : ∃ E, appE C x = E := ⟨_, rfl⟩
        have KG := hide (fun h => app_good (t := C) (x := x) h)
        rw [hT, hV, hE] at CX
        rw [hT, hE] at KG
        clear hT hV hE hx l0 l1 l2 l3 l4 l5 l6
        have hk0 : (0 : Int) ≤ (k : Int) := by omega
        have hk1 : (k : Int) < (ts.length : Int) := by omega
        go_upto_region 7 with fail
        go_cut [5, 6, 7] from 15 to 90 (fun t5 t6 t7 wx => ∃ r bn dn bi di be de, t5 = .pointer (some ⟨r, 0, none⟩) ∧ t6 = .slice be V.length de ∧ t7 = .int .i64 E ∧ Hid (AppX wr wx r T V (.slice bn T.ns.length dn) (.slice bi T.ss.length di) (.slice be V.length de)))
        case first =>
          clear HKL HSL CG KG CA
          go_region_held3 (fun w' => w'.cell? ⟨q, 0, none⟩ = some (.int .i64 C.z) ∧ w'.cell? ⟨q, 1, none⟩ = some (.slice an C.ns.length cn) ∧ w'.cell? ⟨q, 2, none⟩ = some (.slice ai C.ss.length ci) ∧ w'.cell? ⟨lb, lo + k * 7, none⟩ = some (.int .i64 x.z) ∧ w'.cell? ⟨lb, lo + k * 7 + 1, none⟩ = some (.int .i64 x.o) ∧ w'.cell? ⟨lb, lo + k * 7 + 2, none⟩ = some (.int .i64 x.s) ∧ w'.cell? ⟨lb, lo + k * 7 + 3, none⟩ = some (.string ⟨x.p.toArray⟩) ∧ w'.cell? ⟨lb, lo + k * 7 + 4, none⟩ = some (.string ⟨x.d.toArray⟩) ∧ w'.cell? ⟨lb, lo + k * 7 + 5, none⟩ = some (.int .i64 x.v) ∧ w'.cell? ⟨lb, lo + k * 7 + 6, none⟩ = some (.int .i64 x.w)) (first | with_reducible exact (unhide R0).ten | with_reducible exact (unhide R0).drew.ten | with_reducible exact ((unhide R0).next (allocB _ _)).ten | with_reducible exact ((unhide R0).next (allocB _ _)).drew.ten | with_reducible exact ((unhide R0).drew.next (allocB _ _)).ten | with_reducible exact (unhide R5).ten | with_reducible exact ((unhide R5).next (allocB _ _)).ten | with_reducible exact ((unhide R0).next (unhide P5).b).ten) (first
            | (go_at_call 11; refine (unhide CX _ _ _ ((unhide hC).n.next (by first | with_reducible exact (Below.refl _ _).drew | with_reducible exact (allocB _ _).drew | with_reducible exact nnext (Below.refl _ _).drew (allocB _ _))) ((unhide hC).s.next (by first | with_reducible exact (Below.refl _ _).drew | with_reducible exact (allocB _ _).drew | with_reducible exact nnext (Below.refl _ _).drew (allocB _ _)))).mono ?_; rintro e w5 ⟨vn5, vs5, ve5, rfl, n5, s5, e5, hb5⟩; have B5 : Hid (Below wr.heap.size wr w5) := hide (nnext (by first | with_reducible exact (Below.refl _ _).drew | with_reducible exact (allocB _ _).drew | with_reducible exact nnext (Below.refl _ _).drew (allocB _ _)) hb5); have R5 := hide ((unhide R0).next (unhide B5)); have h5 := (unhide B5).size; obtain ⟨bn, dn, rfl, _⟩ := n5.slice; obtain ⟨bi, di, rfl, _⟩ := s5.slice; obtain ⟨be, de, rfl, _⟩ := e5.slice; have M5 := hide n5; have M6 := hide s5; have M7 := hide e5; (try (have Z5 : Hid (w5.heap[wr.heap.size]? = some (.cells #[.int .i64 0, .slice none 0 0, .slice none 0 0] 27 (0, 0))) := hide ((hb5.block _ (by simp)).trans (heap_alloc_new wr _)); have P5 := hide (app_put (unhide B5) (Nat.le_refl _) (by simp) (unhide Z5) (unhide M5) (unhide M6) (unhide M7)); obtain ⟨z0, z1, z2, z3, z4, z5⟩ := zcells (unhide Z5))); clear n5 s5 e5 hb5))
          all_goals go_wp2_with fail
          all_goals go_meet
          all_goals first
            | exact ⟨wr.heap.size, bn, dn, bi, di, be, de, rfl, rfl, rfl, P5⟩
            | exact ⟨w5.heap.size, bn, dn, bi, di, be, de, rfl, rfl, rfl, hide (app_new (unhide B5) (Nat.le_refl _) (unhide M5) (unhide M6) (unhide M7))⟩
        case rest =>
          obtain ⟨r, bn, dn, bi, di, be, de, rfl, rfl, rfl, A1⟩ := hcut
          obtain ⟨d0, d1, d2⟩ := (unhide A1).cells
          have hC1 := hide ((unhide hC).next (unhide A1).b)
          obtain ⟨e0, e1, e2, g0, g1, g2⟩ := (unhide hC1).cells
          have hrl := (unhide A1).lt
          have hrb := (unhide A1).qb
          clear CX R0 c0 c1 c2 f0 f1 f2
          by_cases hE : E = 0
          · obtain ⟨gT, hzz, hzlt⟩ := unhide KG hE
            have HZ := hide (show ¬ T.z ≤ C.z by omega)
            have CGT := hide (unhide CG T gT)
            have HGT := hide gT
            subst hE
            clear KG CG hzz hzlt gT CA
            have hle : decide (T.z ≤ C.z) = false := decide_eq_false (unhide HZ)
            go_wp2_with fail
            refine (unhide CGT _ _ _ (unhide A1).n.seq (unhide A1).s.seq).mono ?_
            rintro e w4 ⟨rfl, hb4⟩
            have A2 := hide ((unhide A1).next hb4)
            have hC2 := hide ((unhide hC1).next hb4)
            obtain ⟨i0, i1, i2⟩ := (unhide A2).cells
            obtain ⟨j0, j1, j2, j3, j4, j5⟩ := (unhide hC2).cells
            have hqr : q ≠ r := by omega
            have CP := hide ((unhide hC2).put (T := T) (un := .slice bn T.ns.length dn) (us := .slice bi T.ss.length di) (B := wr.heap.size) hql (unhide A2).n (unhide A2).s (unhide HGT) rfl)
            clear hb4 d0 d1 d2 e0 e1 e2 g0 g1 g2 A1 hC1
            go_wp2_with fail
            go_loopg [8] T.ns.length (fun kx s8 wv => ∃ (j : Nat), s8 = .int .i64 j ∧ j ≤ T.ns.length ∧ T.ns.length - j ≤ kx ∧ Hid (CurT w wv q T (.slice bn T.ns.length dn) (.slice bi T.ss.length di)))
            case atStart => exact ⟨0, rfl, Nat.zero_le _, Nat.le_refl _, CP⟩
            case round =>
              obtain ⟨j, rfl, hj, hgj, hD⟩ := hrel
              obtain ⟨u0, u1, u2, _, _, _⟩ := (unhide hD).cells
              have few := (unhide HGT).nod.few
              clear i0 i1 i2 j0 j1 j2 j3 j4 j5 CP
              by_cases hlj : j < T.ns.length
              · obtain ⟨n, hn⟩ : ∃ n, T.ns[j]? = some n := ⟨_, List.getElem?_eq_getElem hlj⟩
                have hnm := List.mem_of_getElem? hn
                obtain ⟨A, B, Tn⟩ := there_of_look (unhide HGT).nod.asc (look_mem (unhide HGT).nod.asc hnm)
                have ok := (unhide HGT).nod.ok n hnm
                obtain ⟨rb, ro, rc, he, hrbl, hrow, _, _⟩ := seq_row (unhide hD).n (by intro h0; rw [h0] at hn; simp at hn)
                simp only [Value.slice.injEq] at he
                obtain ⟨rfl, _, rfl⟩ := he
                have CK := hide (fun W (hW : Below wr.heap.size wr W) => tkids_there T.z (.slice (some ⟨rb, ro, none⟩) T.ns.length dn) (.slice bi T.ss.length di) T.ns A B n n.p W ((unhide hD).n.next hW) few Tn)
                have COp := hide (fun W (hW : Below wr.heap.size wr W) => topen_any T.z (.slice (some ⟨rb, ro, none⟩) T.ns.length dn) (.slice bi T.ss.length di) T.ss n.o W ((unhide hD).s.next hW) (unhide HGT).ses)
                have hkn : ((kidsP T.ns n.p).length : Int) = n.n := by rw [kidsP_len]; exact ok.kids.symm
                have HKN := hide hkn
                have hown := ok.own
                have y0 := hrow.n0 hn
                have y1 := hrow.n1 hn
                have y2 := hrow.n2 hn
                have y3 := hrow.n3 hn
                have y4 := hrow.n4 hn
                have y5 := hrow.n5 hn
                have y6 := hrow.n6 hn
                have y7 := hrow.n7 hn
                have y8 := hrow.n8 hn
                have hqD := (unhide hD).lt
                clear hn hnm Tn ok hrow hkn
                have hrbl2 : rb < wr.heap.size := hrbl
                go_wp2_with fail
                refine (unhide CK _ (allocB _ _)).mono ?_
                rintro e w6 ⟨v6, rfl, o6, hb6⟩
                obtain ⟨ka, kc, rfl, _⟩ := o6.slice
                have n6 : OneR w6 wr.heap.size n := (hb6.block _ (by simp)).trans (one_newN wr n)
                have m7 := n6.cellN 7 _ rfl
                have m8 := n6.cellN 8 _ rfl
                have hD6 := hide ((unhide hD).next (nbox_then hb6))
                obtain ⟨x0, x1, x2, _, _, _⟩ := (unhide hD6).cells
                have B6 := hide (nbox_then hb6)
                have hkb : (((kidsP T.ns n.p).length : Int) != n.n) = false := by rw [unhide HKN]; simp
                clear o6 hb6 n6 CK u0 u1 u2 y0 y1 y2 y3 y4 y5 y6 y7 y8
                by_cases hno : n.o = 0
                · have hob : (n.o != 0) = false := by simpa using hno
                  clear hno hown COp
                  go_wp2_with fail
                  go_roundg (T.ns.length - (j + 1))
                  case measure => omega
                  case rel => exact ⟨j + 1, rfl, by omega, Nat.le_refl _, hD6⟩
                · have hob : (n.o != 0) = true := by simpa using hno
                  have hin : n.o ∈ T.ss := by
                    rcases hown with h | ⟨h, _⟩
                    · exact absurd h hno
                    · exact h
                  rw [decide_eq_true hin] at COp
                  clear hno hown hin
                  go_wp2_with fail
                  refine (unhide COp _ (unhide B6)).mono ?_
                  rintro e w7 ⟨rfl, hb7⟩
                  have hD7 := hide ((unhide hD6).next hb7)
                  clear hb7 COp x0 x1 x2
                  go_wp2_with fail
                  go_roundg (T.ns.length - (j + 1))
                  case measure => omega
                  case rel => exact ⟨j + 1, rfl, by omega, Nat.le_refl _, hD7⟩
              · obtain rfl : j = T.ns.length := by omega
                go_wp2_with fail
                go_roundg (ts.length - (k + 1))
                case measure => omega
                case rel => exact ⟨k + 1, T, bn, dn, bi, di, rfl, by omega, by omega, Nat.le_refl _, hD⟩
          · have hEb : (E != 0) = true := by simpa using hE
            clear KG CG
            go_wp2_with fail
            go_roundg (ts.length - (k + 1))
            case measure => omega
            case rel => exact ⟨k + 1, C, an, cn, ai, ci, rfl, by omega, by omega, Nat.le_refl _, hC1⟩
      · obtain rfl : k = 80 := by omega
        go_wp2_with fail
        go_ret
        exact ⟨rfl, (unhide hC).b⟩
    · obtain rfl : k = ts.length := by omega
      go_wp2_with fail
      go_ret
      exact ⟨rfl, (unhide hC).b⟩

end Go.Proofs.YtkbnneoapcmfiabDoor

namespace Go.Proofs.YtkbnneoapcmfiabDoor
open Go.ChangeShapes Go.WideShapes Go.ChangeAt Go.RowKit Go.ChangeMaps

theorem ncellsLog : Tryd.prog.cellsOf 22 = 1 := by kernel_rfl
theorem nbytesTxn : Tryd.prog.bytesOf 34 = 72 := by kernel_rfl

section
variable {H : Type} {enc : TypeId × Value → H} {W : World} {base : Nat} {spare : Nat → Bool} {held : Bool}
set_option maxRecDepth 10000 in
theorem nopen_one {n : Nat} {cs : List Value} {x : DataW H × List MemPlace} (hl : cs.length = 7) (h : DataW.trod enc Tryd.prog W base spare held n 34 cs = some x) : ∃ t : WTxn, cs = tcells t ∧ x.1 = txnD t ∧ TxnOk t := by
  match cs, hl with
  | [c0, c1, c2, c3, c4, c5, c6], _ =>
    obtain ⟨xs, n, _, hx, _, hlen, hfs⟩ := DataW.trod_struct Tryd.underlying34 h
    match xs, hlen with
    | [y0, y1, y2, y3, y4, y5, y6], _ =>
      obtain ⟨z, e0, rfl, w0⟩ := DataW.trod_int Tryd.underlying3 (show DataW.trod enc Tryd.prog W base spare held n 3 [c0] = some y0 by simpa [cellsInt] using hfs 0 _ rfl)
      obtain ⟨o, e1, rfl, w1⟩ := DataW.trod_int Tryd.underlying3 (show DataW.trod enc Tryd.prog W base spare held n 3 [c1] = some y1 by simpa [cellsInt] using hfs 1 _ rfl)
      obtain ⟨s, e2, rfl, w2⟩ := DataW.trod_int Tryd.underlying3 (show DataW.trod enc Tryd.prog W base spare held n 3 [c2] = some y2 by simpa [cellsInt] using hfs 2 _ rfl)
      obtain ⟨p', e3, rfl, w3⟩ := DataW.trod_string Tryd.underlying9 (show DataW.trod enc Tryd.prog W base spare held n 9 [c3] = some y3 by simpa [cellsStr] using hfs 3 _ rfl)
      obtain ⟨d', e4, rfl, w4⟩ := DataW.trod_string Tryd.underlying9 (show DataW.trod enc Tryd.prog W base spare held n 9 [c4] = some y4 by simpa [cellsStr] using hfs 4 _ rfl)
      obtain ⟨v', e5, rfl, w5⟩ := DataW.trod_int Tryd.underlying3 (show DataW.trod enc Tryd.prog W base spare held n 3 [c5] = some y5 by simpa [cellsInt] using hfs 5 _ rfl)
      obtain ⟨u', e6, rfl, w6⟩ := DataW.trod_int Tryd.underlying3 (show DataW.trod enc Tryd.prog W base spare held n 3 [c6] = some y6 by simpa [cellsInt] using hfs 6 _ rfl)
      simp only [List.cons.injEq, and_true] at e0 e1 e2 e3 e4 e5 e6
      subst e0 e1 e2 e3 e4 e5 e6
      obtain ⟨pl, rfl⟩ := ba_of p'
      obtain ⟨dl, rfl⟩ := ba_of d'
      subst hx
      exact ⟨⟨z, o, s, pl, dl, v', u'⟩, rfl, rfl, ⟨w0, w1, w2, w3, w4, w5, w6⟩⟩
theorem nweights_txn (t : WTxn) : DataW.weights Tryd.prog 34 (txnD t : DataW H) = [t.p.length, t.d.length] := by
  simp [DataW.weights, txnD, Tryd.underlying34, DataW.weightsEach]

set_option maxRecDepth 10000 in
theorem nopen_log {r : Reach} {b0 : Nat} {v : Value} {d : DataW H} {p : List MemPlace}
    (hv : Value.okWide Tryd.prog W r b0 22 v) (h : DataW.Trod enc Tryd.prog W base spare held 22 v d p) :
    ∃ ts, LogV W v ts ∧ (∀ t ∈ ts, TxnOk t) ∧ ∀ M, (∀ x ∈ DataW.weights Tryd.prog 22 d, x ≤ M) → (∀ t ∈ ts, t.p.length ≤ M ∧ t.d.length ≤ M) ∧ ts.length * 72 ≤ M := by
  obtain ⟨fuel, hf⟩ := h
  obtain ⟨sa, sl, sc, rfl⟩ := okWide_slice Tryd.underlying22 hv
  have hf' : DataW.trod enc Tryd.prog W base spare held fuel 22 [.slice sa sl sc] = some (d, p) := by simpa [Value.cells] using hf
  clear hf
  rcases Go.Deep.open_slice Tryd.underlying22 hf' with ⟨h1, hx⟩ | ⟨a, len, cap, m, k, D, Pl, h1, hb, hl, hm, hmm, hx, hel⟩
  · simp only [List.cons.injEq, and_true] at h1
    rw [h1]
    exact ⟨[], LogV.nil W, by simp, fun M _ => ⟨by simp, by simp⟩⟩
  · simp only [List.cons.injEq, and_true] at h1
    rw [h1]
    simp only [Prod.mk.injEq] at hx
    obtain ⟨rfl, _⟩ := hx
    have hlm : len ≤ m := by rw [hmm]; split <;> omega
    have each : ∀ i, i < len → ∃ t : WTxn, (∀ c, c < 7 → W.cell? (a.add (i * 7 + c)) = (tcells t)[c]?) ∧ D i = txnD t ∧ TxnOk t := by
      intro i hi
      obtain ⟨cs', g1, g2⟩ := hel i (by omega)
      rw [cellsTxn] at g1
      obtain ⟨_, hlen, hcell⟩ := World.cells?_some g1
      obtain ⟨t, rfl, hd, hok⟩ := nopen_one hlen g2
      refine ⟨t, fun c hc => ?_, hd, hok⟩
      have := hcell c hc
      rwa [Go.Deep.add_add] at this
    have : Inhabited WTxn := ⟨t0⟩
    obtain ⟨F, hF⟩ := Go.Deep.choose_lt each
    refine ⟨(List.range len).map F, ?_, ?_, ?_⟩
    · by_cases h0 : len = 0
      · subst h0
        exact .inl ⟨some a, cap, rfl, rfl, hm⟩
      · have c0 := (hF 0 (by omega)).1 0 (by decide)
        obtain ⟨b, off, sp⟩ := a
        have hsp : sp = none := by
          cases sp with
          | none => rfl
          | some s => simp [World.cell?, Addr.add, tcells] at c0; split at c0 <;> simp at c0
        subst hsp
        have hblt : b < W.heap.size := World.block_lt_of_cell? W _ (show W.cell? ((⟨b, off, none⟩ : Addr).add (0 * 7 + 0)) = some _ from c0) |> fun h => by simpa [Addr.add] using h
        refine .inr ⟨b, off, cap, by simp, by simpa using hl, hm, hblt, by simp; omega, fun j u hj => ?_⟩
        have hjl : j < len * 7 := by
          have := (List.getElem?_eq_some_iff.1 hj).1
          rw [cellsT_length] at this
          simpa using this
        have hi : j / 7 < len := by omega
        have hg := cellsT_get ((List.range len).map F) (j / 7) (F (j / 7)) (by simp [hi]) (j % 7) (by omega)
        rw [show j / 7 * 7 + j % 7 = j by omega, hj] at hg
        have := (hF (j / 7) hi).1 (j % 7) (by omega)
        rw [show j / 7 * 7 + j % 7 = j by omega, Addr.add_lit, ← hg] at this
        exact this
    · intro t ht
      obtain ⟨i, hi, rfl⟩ := List.mem_map.1 ht
      exact (hF i (by simpa using hi)).2.2
    · intro M hM
      have hw : DataW.weights Tryd.prog 22 (.slice ((List.range len).map D) ((List.range (m - len)).map fun j => D (len + j)) : DataW H) =
          (len + (m - len)) * 72 :: (DataW.weightsAll Tryd.prog 34 ((List.range len).map D) ++ DataW.weightsAll Tryd.prog 34 ((List.range (m - len)).map fun j => D (len + j))) := by
        simp [DataW.weights, Tryd.underlying22, nbytesTxn]
      rw [hw] at hM
      refine ⟨fun t ht => ?_, ?_⟩
      · obtain ⟨i, hi, rfl⟩ := List.mem_map.1 ht
        have hi' : i < len := by simpa using hi
        have key : ∀ x ∈ DataW.weights Tryd.prog 34 (D i), x ≤ M := fun x hx => hM x (List.mem_cons_of_mem _ (List.mem_append.2 (.inl (nweightsAll_mem _ (D i) x (List.mem_map.2 ⟨i, hi, rfl⟩) hx))))
        rw [(hF i hi').2.1, nweights_txn] at key
        exact ⟨key _ (by simp), key _ (by simp)⟩
      · have := hM _ (List.mem_cons_self ..)
        simp only [List.length_map, List.length_range]
        omega
theorem nsized_log {ts : List TypeId} {ds : List (DataW H)} (h : (DataW.weightsEach Tryd.prog ts ds).all (· ≤ reachBytes) = true) {j : Nat} {d : DataW H} (ht : ts[j]? = some 22) (hd : ds[j]? = some d) : ∀ x ∈ DataW.weights Tryd.prog 22 d, x ≤ 140737488351232 := by
  intro x hx
  have e : reachBytes = 140737488351232 := by decide
  have h1 := List.all_eq_true.1 h _ (DataW.weights_mem_each ht hd x hx)
  rw [e] at h1
  simpa using h1
end
end Go.Proofs.YtkbnneoapcmfiabDoor
