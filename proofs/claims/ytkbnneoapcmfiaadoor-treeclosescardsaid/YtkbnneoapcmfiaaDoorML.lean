/-
  TreeCloses: the walk.
-/
import Derived.Test.YtkbnneoapcmfiaaDoorMJ
namespace Go.Proofs.YtkbnneoapcmfiaaDoor
open Go.RowKit

def cloX (s z : Int) : WTxn := ⟨z, 2, s, [], [], 0, 0⟩
structure CloP (t : Tr) (s : Int) (T : Tr) (V : List Ev) : Prop where
  few : t.ns.length ≤ 400
  good : GoodT T
  slen : T.ss.length + 1 = t.ss.length
  snot : s ∉ T.ss
  nlen : T.ns.length + (ownedP t.ns s).length = t.ns.length
  elen : V.length = 2 * (ownedP t.ns s).length
  hit : ∀ n ∈ t.ns, n.o = s → ∃ A B, NGap T.ns A B n.p
  miss : ∀ n ∈ t.ns, n.o ≠ s → ∃ A m B, NThere T.ns A m B n.p ∧ m.d = n.d ∧ m.v = n.v ∧ m.o = n.o ∧ m.p.length ≤ 200 ∧ m.d.length ≤ 256
theorem closes_plain {t : Tr} {s z : Int} (h : appE t (cloX s z) = 0) : CloP t s (appT t (cloX s z)) (appV t (cloX s z)) := by
  have ho : (cloX s z).o = 2 := rfl
  have hss : (cloX s z).s = s := rfl
  obtain ⟨g2, hz, _⟩ := app_good h
  obtain ⟨ha, hc, _⟩ := app_zero h
  obtain ⟨g, hg, hlt, _, h2⟩ := adm_zero ha
  have f := fine_of hg
  have hm := h2 (by omega)
  rw [hss] at hm
  have gn : GoodN z t.ns t.ss := g.nod.mono (by have : (cloX s z).z = z := rfl; omega)
  have hN : chgN t (cloX s z) = rmAll z t.ns (ownedP t.ns s) := by rw [chgN, if_pos ho]; rfl
  have hS : chgS t (cloX s z) = dropS t.ss s := by rw [chgS, if_neg (by omega), if_pos ho]; rfl
  have hV : chgV t (cloX s z) = rmEv (ownedP t.ns s) := by rw [chgV, if_pos ho]; rfl
  have e1 : appT t (cloX s z) = ⟨z, rmAll z t.ns (ownedP t.ns s), dropS t.ss s⟩ := by rw [appT, if_pos h, hN, hS]; rfl
  have s0 : s ≠ 0 := by have := f.s; rw [hss] at this; omega
  have R := rest_owned gn s0
  have gT : NAsc (appT t (cloX s z)).ns := g2.nod.asc
  have own_iff : ∀ n ∈ t.ns, (n.p ∈ ownedP t.ns s ↔ n.o = s) := by
    intro n hn
    constructor
    · intro hp
      obtain ⟨m, hm1, hm2⟩ := List.mem_map.1 hp
      obtain ⟨h1, h2⟩ := List.mem_filter.1 hm1
      have : m = n := nasc_uniq g.nod.asc h1 hn hm2
      subst this
      simpa using h2
    · intro ho
      exact List.mem_map.2 ⟨n, List.mem_filter.2 ⟨hn, by simpa using ho⟩, rfl⟩
  refine ⟨g.nod.few, g2, ?_, ?_, ?_, ?_, ?_, ?_⟩
  · rw [e1]
    show (dropS t.ss s).length + 1 = t.ss.length
    rcases swhere s t.ss g.ses.1 with ⟨A, B, T⟩ | ⟨A, B, G⟩
    · rw [T.drop, T.eq]; simp; omega
    · exact absurd hm G.not
  · rw [e1]
    show s ∉ dropS t.ss s
    rw [dropS]
    intro hx
    have := (List.mem_filter.1 hx).2
    simp at this
  · rw [e1]
    exact rmAll_length _ _ gn R
  · rw [appV, if_pos h, hV, rmEv_len]
  · intro n hn ho
    refine gap_of_look gT ?_
    rw [e1]
    show lookN (rmAll z t.ns (ownedP t.ns s)) n.p = none
    rw [lookN, List.find?_eq_none]
    intro m hm1 hm2
    obtain ⟨m', h1, h2, h3, _, _, h6⟩ := mem_rmAll _ _ m hm1
    simp only [decide_eq_true_eq] at hm2
    have : m' = n := nasc_uniq g.nod.asc h1 hn (by rw [h2, hm2])
    subst this
    exact h6 ((own_iff m' hn).2 ho)
  · intro n hn ho
    have hnot : n.p ∉ ownedP t.ns s := fun hp => ho ((own_iff n hn).1 hp)
    obtain ⟨m, h1, h2, h3, h4, h5, _⟩ := rmAll_mem (z := z) _ _ n hn hnot
    have hmT : m ∈ (appT t (cloX s z)).ns := by rw [e1]; exact h1
    obtain ⟨A, B, T⟩ := there_of_look gT (look_mem gT hmT)
    have km := g2.nod.ok m hmT
    exact ⟨A, m, B, by rw [← h2]; exact T, h4, h5, h3, goodB_le km.path, km.data⟩

/-- a node in a box q -/
structure GetX (W wx : World) (q : Nat) (m : Nd) : Prop where
  one : OneR wx q m
  qb : W.heap.size ≤ q
  b : Below W.heap.size W wx
theorem get_new {W w2 : World} (m : Nd) (hb : Below W.heap.size W w2) : GetX W (w2.alloc (.cells #[.string ⟨m.p.toArray⟩, .string ⟨m.d.toArray⟩, .int .i64 m.c, .int .i64 m.m, .int .i64 m.q, .int .i64 m.v, .int .i64 m.k, .int .i64 m.o, .int .i64 m.n] 32)) w2.heap.size m := ⟨one_newN w2 m, hb.size, nnext hb (allocB _ _)⟩
theorem get_put {W w2 : World} {q : Nat} (m : Nd) (hb : Below W.heap.size W w2) (hq : W.heap.size ≤ q) (hz : w2.heap[q]? = some (.cells #[.string ⟨#[]⟩, .string ⟨#[]⟩, .int .i64 0, .int .i64 0, .int .i64 0, .int .i64 0, .int .i64 0, .int .i64 0, .int .i64 0] 32 (0, 0))) : GetX W (((((((((w2.setCell ⟨q, 0, none⟩ (.string ⟨m.p.toArray⟩)).setCell ⟨q, 1, none⟩ (.string ⟨m.d.toArray⟩)).setCell ⟨q, 2, none⟩ (.int .i64 m.c)).setCell ⟨q, 3, none⟩ (.int .i64 m.m)).setCell ⟨q, 4, none⟩ (.int .i64 m.q)).setCell ⟨q, 5, none⟩ (.int .i64 m.v)).setCell ⟨q, 6, none⟩ (.int .i64 m.k)).setCell ⟨q, 7, none⟩ (.int .i64 m.o)).setCell ⟨q, 8, none⟩ (.int .i64 m.n)) q m := by
  refine ⟨?_, hq, (((((((((hb.setCell hq _).setCell hq _).setCell hq _).setCell hq _).setCell hq _).setCell hq _).setCell hq _).setCell hq _).setCell hq _)⟩
  unfold OneR
  rw [block_set (.int .i64 m.n) (block_set (.int .i64 m.o) (block_set (.int .i64 m.k) (block_set (.int .i64 m.v) (block_set (.int .i64 m.q) (block_set (.int .i64 m.m) (block_set (.int .i64 m.c) (block_set (.string ⟨m.d.toArray⟩) (block_set (.string ⟨m.p.toArray⟩) hz))))))))]
  simp [Lay.cs, ncells, Lay.ty]
theorem zcell9 {W : World} {q : Nat} (h : W.heap[q]? = some (.cells #[.string ⟨#[]⟩, .string ⟨#[]⟩, .int .i64 0, .int .i64 0, .int .i64 0, .int .i64 0, .int .i64 0, .int .i64 0, .int .i64 0] 32 (0, 0))) : OneR W q nzero := h
/-- what is read of the two trees in a round -/
structure CloR (W : World) (q0 q : Nat) (z : Int) (vn vs : Value) (vt : Value) (g o : Nat) (p : List UInt8) : Prop where
  a : W.heap[q]? = some (.cells #[.int .i64 z, vn, vs] 25 (0, 0))
  t : W.cell? ⟨q0, 1, none⟩ = some vt
  tl : q0 < W.heap.size
  n : W.cell? ⟨g, o, none⟩ = some (.string ⟨p.toArray⟩)
  nl : g < W.heap.size
theorem CloR.next {W V : World} {q0 q : Nat} {z : Int} {vn vs vt : Value} {g o : Nat} {p : List UInt8} (h : CloR W q0 q z vn vs vt g o p) (hb : Below W.heap.size W V) : CloR V q0 q z vn vs vt g o p :=
  ⟨(hb.block _ (Array.getElem?_eq_some_iff.1 h.a).1).trans h.a, (hb.cell (p := ⟨q0, 1, none⟩) h.tl).trans h.t, Nat.lt_of_lt_of_le h.tl hb.size, (hb.cell (p := ⟨g, o, none⟩) h.nl).trans h.n, Nat.lt_of_lt_of_le h.nl hb.size⟩
theorem CloR.five {W : World} {q0 q : Nat} {z : Int} {vn vs vt : Value} {g o : Nat} {p : List UInt8} (h : CloR W q0 q z vn vs vt g o p) : W.cell? ⟨q, 0, none⟩ = some (.int .i64 z) ∧ W.cell? ⟨q, 1, none⟩ = some vn ∧ W.cell? ⟨q, 2, none⟩ = some vs ∧ W.cell? ⟨q0, 1, none⟩ = some vt ∧ W.cell? ⟨g, o, none⟩ = some (.string ⟨p.toArray⟩) := by
  have h1 := h.a
  refine ⟨?_, ?_, ?_, h.t, h.n⟩ <;> simp [World.cell?, h1]
theorem CloR.at {W : World} {q0 q : Nat} {z : Int} {vn vs vt : Value} {g o : Nat} {p : List UInt8} (h : CloR W q0 q z vn vs vt g o p) : CloR W.drew q0 q z vn vs vt g o p := h.next (Below.refl _ _).drew
theorem CloR.other {W V : World} {q0 q : Nat} {z : Int} {vn vs vt : Value} {g o : Nat} {p : List UInt8} {B : Nat} (h : CloR W q0 q z vn vs vt g o p) (hb : Below B W V) (h1 : q < B) (h2 : q0 < B) (h3 : g < B) : CloR V q0 q z vn vs vt g o p :=
  ⟨(hb.block _ h1).trans h.a, (hb.cell (p := ⟨q0, 1, none⟩) h2).trans h.t, Nat.lt_of_lt_of_le h.tl hb.size, (hb.cell (p := ⟨g, o, none⟩) h3).trans h.n, Nat.lt_of_lt_of_le h.nl hb.size⟩

set_option maxRecDepth 20000 in
set_option maxHeartbeats 8000000 in
theorem treeCloses_walk (t : Tr) (vn vs : Value) (s z : Int) (w : World) (hn : SeqV w vn t.ns) (hs : SeqV w vs t.ss) (hw : WfT t) (hl : t.ns.length * 88 ≤ 140737488355328) (hls : t.ss.length * 8 ≤ 140737488355328) :
    Calls Tryd.prog 8 #[.agg #[.int .i64 t.z, vn, vs], .int .i64 s, .int .i64 z] w fun e w' => e = .returned (.bool true) ∧ Below w.heap.size w w' := by
  have CO := hide (fun W (hW : Below w.heap.size w W) => own_any t vn vs W (hn.next hW) (hs.next hW) hl hls)
  have CA := hide (fun (W : World) (vn vs : Value) (hn : SeqV W vn t.ns) (hs : SeqV W vs t.ss) => apply_any t vn vs (cloX s z) W hn hs hw (by simp [cloX]))
  have KP := hide (fun h => closes_plain (t := t) (s := s) (z := z) h)
  have KR := hide (fun W (hW : Below w.heap.size w W) => hn.next hW)
  unfold GivesA at CA
  obtain ⟨T, hT⟩ : ∃ T, appT t (cloX s z) = T := ⟨_, rfl⟩
  obtain ⟨V, hV⟩ : ∃ V, appV t (cloX s z) = V := ⟨_, rfl⟩
  obtain ⟨E, hE⟩ : ∃ E, appE t (cloX s z) = E := ⟨_, rfl⟩
  rw [hT, hV, hE] at CA KP
  clear hT hV hE
  obtain ⟨na, nc, rfl⟩ := seq_slice hn
  obtain ⟨sa, sc, rfl⟩ := seq_slice hs
  clear hn hs hw
  unfold cloX txnV at CA
  simp only at *
  have T0 : Hid ((w.alloc (.cells #[.int .i64 t.z, .slice na t.ns.length nc, .slice sa t.ss.length sc] 25)).heap[w.heap.size]? = some (.cells #[.int .i64 t.z, .slice na t.ns.length nc, .slice sa t.ss.length sc] 25 (0, 0))) := heap_alloc_new w _
  go_enter Tryd.func8, Tryd.ntmps8
  go_wp2_with fail
  refine (unhide CO _ (allocB _ _)).mono ?_
  rintro e w1 ⟨vn1, vs1, rfl, n1, s1, hb1⟩
  have N1 := hide n1.seq
  have S1 := hide s1.seq
  have T1 := hide ((hb1.block _ (by simp)).trans (unhide T0))
  have B1 := hide (nnext (allocB _ _) hb1)
  clear n1 s1 hb1 T0 CO
  go_wp2_with fail
  refine (unhide CA _ _ _ (unhide N1) (unhide S1)).mono ?_
  rintro e w2 ⟨vn2, vs2, ve2, rfl, n2, s2, e2, hb2⟩
  obtain ⟨an, cn, rfl, _⟩ := n2.slice
  obtain ⟨ai, ci, rfl, _⟩ := s2.slice
  obtain ⟨ae, ce, rfl, _⟩ := e2.slice
  have hlt1 := (Array.getElem?_eq_some_iff.1 (unhide T1)).1
  have A2 : Hid (AppX w1 (w2.alloc (.cells #[.int .i64 T.z, .slice an T.ns.length cn, .slice ai T.ss.length ci] 25)) w2.heap.size T V (.slice an T.ns.length cn) (.slice ai T.ss.length ci) (.slice ae V.length ce)) := hide (app_new hb2 (Nat.le_refl _) n2 s2 e2)
  have T2 := hide ((hb2.block _ hlt1).trans (unhide T1))
  have T2a := hide (((allocB w2 (.cells #[.int .i64 T.z, .slice an T.ns.length cn, .slice ai T.ss.length ci] 25)).block _ (Array.getElem?_eq_some_iff.1 (unhide T2)).1).trans (unhide T2))
  have B2 := hide (nnext (unhide B1) (unhide A2).b)
  clear n2 s2 e2 hb2 N1 S1 CA
  by_cases hE : E = 0
  · subst hE
    have P := unhide KP rfl
    have HP := hide P
    clear P KP
    go_wp2_with fail
    refine (grows_true _).mono ?_
    rintro e w3 ⟨rfl, hb3⟩
    have A3 := hide ((unhide A2).next hb3)
    have T3 := hide ((hb3.block _ (Array.getElem?_eq_some_iff.1 (unhide T2a)).1).trans (unhide T2a))
    have B3 := hide (nnext (unhide B2) hb3)
    have KT : ∀ W, Below w3.heap.size w3 W → ∀ (i : Nat) (m : Nd), t.ns[i]? = some m → ∃ g off, na = some ⟨g, off, none⟩ ∧ g < w3.heap.size ∧ RowAt W g off (cellsL t.ns) := by
      intro W hW i m hm
      obtain ⟨g, off, cap, e, hg, hr, _, _⟩ := seq_row (unhide KR w3 (unhide B3)) (by intro h0; rw [h0] at hm; simp at hm)
      simp only [Value.slice.injEq] at e
      exact ⟨g, off, e.1, hg, hr.kept hW hg⟩
    have HKT := hide KT
    clear hb3 KT KR A2 T2 T2a B2 T1 B1 hlt1
    have few := (unhide HP).few
    have few2 := (unhide HP).good.nod.few
    go_wp2_with fail
    go_loopg [10, 11] t.ns.length (fun kx s10 s11 wr => ∃ k : Nat, s11 = .int .i64 k ∧ s10 = .int .i64 ((ownedP (t.ns.take k) s).length : Nat) ∧ k ≤ t.ns.length ∧ t.ns.length - k ≤ kx ∧ Hid (Below w3.heap.size w3 wr))
    case atStart => exact ⟨0, rfl, rfl, Nat.zero_le _, Nat.le_refl _, hide (by first | with_reducible exact Below.refl _ _ | with_reducible exact (Below.refl _ _).drew)⟩
    case round =>
      obtain ⟨k, rfl, rfl, hk, hg, hB⟩ := hrel
      have A4 := hide ((unhide A3).next (unhide hB))
      have T4 := (((unhide hB).block _ (Array.getElem?_eq_some_iff.1 (unhide T3)).1).trans (unhide T3))
      obtain ⟨e0, e1, e2⟩ := (unhide A4).cells
      have y0 : wr.cell? ⟨w.heap.size, 0, none⟩ = some (.int .i64 t.z) := by simp [World.cell?, T4]
      have y1 : wr.cell? ⟨w.heap.size, 1, none⟩ = some (.slice na t.ns.length nc) := by simp [World.cell?, T4]
      have y2 : wr.cell? ⟨w.heap.size, 2, none⟩ = some (.slice sa t.ss.length sc) := by simp [World.cell?, T4]
      have hszr := (unhide hB).size
      have hq7 := (unhide A4).lt
      have hq8 := (Array.getElem?_eq_some_iff.1 T4).1
      have HT4 := hide T4
      have hol := owned_len (t.ns.take k) s
      rw [List.length_take] at hol
      clear T4
      by_cases hlt : k < t.ns.length
      · obtain ⟨n, hn⟩ : ∃ n, t.ns[k]? = some n := ⟨_, List.getElem?_eq_getElem hlt⟩
        obtain ⟨gt, ot, rfl, hgt, qt⟩ := unhide HKT wr (unhide hB) k n hn
        have HTK := hide (owned_take hn s)
        obtain ⟨c, hc⟩ : ∃ c, (ownedP (t.ns.take k) s).length = c := ⟨_, rfl⟩
        rw [hc] at hol
        rw [hc]
        have HC := hide hc
        clear hc
        have d0 := qt.n0 hn
        have d1 := qt.n1 hn
        have d5 := qt.n5 hn
        have d7 := qt.n7 hn
        have hgtw : gt < wr.heap.size := by omega
        have hnm := List.mem_of_getElem? hn
        clear qt
        by_cases ho : n.o = s
        · obtain ⟨A, B, G⟩ := (unhide HP).hit n hnm ho
          have CGt := hide (fun W (hW : Below wr.heap.size wr W) => tget_gap T.z (.slice an T.ns.length cn) (.slice ai T.ss.length ci) T.ns A B n.p W ((unhide A4).n.seq.next hW) (by omega) G)
          unfold nodeV nzero at CGt
          simp only at CGt
          have hob : (n.o == s) = true := by simpa using ho
          have HO := hide ho
          clear ho G hn hnm
          have R0 : Hid (CloR wr w.heap.size w2.heap.size T.z (.slice an T.ns.length cn) (.slice ai T.ss.length ci) (.slice (some ⟨gt, ot, none⟩) t.ns.length nc) gt (ot + k * 9) n.p) := ⟨(unhide A4).box, y1, hq8, d0, hgtw⟩
          go_upto_region 8 with fail
          go_cut [12, 13] from 31 to 100 (fun t12 t13 wx => ∃ q, t12 = .pointer (some ⟨q, 0, none⟩) ∧ t13 = .int .i64 7 ∧ Hid (GetX wr wx q nzero))
          case first =>
            clear HP HKT HTK HC A4 A3 HT4 B3 T3
            go_region_held3 (fun w' => w'.cell? ⟨w2.heap.size, 0, none⟩ = some (.int .i64 T.z) ∧ w'.cell? ⟨w2.heap.size, 1, none⟩ = some (.slice an T.ns.length cn) ∧ w'.cell? ⟨w2.heap.size, 2, none⟩ = some (.slice ai T.ss.length ci) ∧ w'.cell? ⟨w.heap.size, 1, none⟩ = some (.slice (some ⟨gt, ot, none⟩) t.ns.length nc) ∧ w'.cell? ⟨gt, ot + k * 9, none⟩ = some (.string ⟨n.p.toArray⟩)) (first | with_reducible exact (unhide R0).five | with_reducible exact (unhide R0).at.five | with_reducible exact ((unhide R0).next (allocB _ _)).five | with_reducible exact ((unhide R0).next (allocB _ _)).at.five | with_reducible exact ((unhide R0).at.next (allocB _ _)).five | with_reducible exact (unhide R5).five | with_reducible exact ((unhide R5).next (allocB _ _)).five | exact ((unhide R0).next (unhide G5).b).five) (first
              | (go_at_call 13; refine (unhide CGt _ (by first | with_reducible exact (Below.refl _ _).drew | with_reducible exact (allocB _ _).drew | with_reducible exact nnext (Below.refl _ _).drew (allocB _ _))).mono ?_; rintro e w5 ⟨rfl, hb5⟩; have B5 : Hid (Below wr.heap.size wr w5) := hide (nnext (by first | with_reducible exact (Below.refl _ _).drew | with_reducible exact (allocB _ _).drew | with_reducible exact nnext (Below.refl _ _).drew (allocB _ _)) hb5); have R5 := hide ((unhide R0).next (unhide B5)); have h5 := (unhide B5).size; (try (have Z5 : Hid (w5.heap[wr.heap.size]? = some (.cells #[.string ⟨#[]⟩, .string ⟨#[]⟩, .int .i64 0, .int .i64 0, .int .i64 0, .int .i64 0, .int .i64 0, .int .i64 0, .int .i64 0] 32 (0, 0))) := hide ((hb5.block _ (by simp)).trans (heap_alloc_new wr _)); have G5 := hide (get_put nzero (unhide B5) (Nat.le_refl _) (unhide Z5)); have o5 := zcell9 (unhide Z5); have u0 := o5.cellN 0 _ rfl; have u1 := o5.cellN 1 _ rfl; have u2 := o5.cellN 2 _ rfl; have u3 := o5.cellN 3 _ rfl; have u4 := o5.cellN 4 _ rfl; have u5 := o5.cellN 5 _ rfl; have u6 := o5.cellN 6 _ rfl; have u7 := o5.cellN 7 _ rfl; have u8 := o5.cellN 8 _ rfl; have t0 := o5.frozenN 0; have t1 := o5.frozenN 1; have t2 := o5.frozenN 2; have t3 := o5.frozenN 3; have t4 := o5.frozenN 4; have t5 := o5.frozenN 5; have t6 := o5.frozenN 6; have t7 := o5.frozenN 7; have t8 := o5.frozenN 8; clear o5)); clear hb5))
            all_goals go_wp2_with fail
            all_goals go_meet
            all_goals first
              | exact ⟨wr.heap.size, rfl, rfl, G5⟩
              | exact ⟨w5.heap.size, rfl, rfl, hide (get_new nzero (unhide B5))⟩
          case rest =>
            obtain ⟨q, rfl, rfl, hq⟩ := hcut
            have R1 := hide ((unhide R0).next (unhide hq).b)
            have B6 := hide (nnext (unhide hB) (unhide hq).b)
            obtain ⟨j0, j1, j2, j3, j4⟩ := (unhide R1).five
            have d7' := ((unhide hq).b.cell (p := ⟨gt, ot + k * 9 + 7, none⟩) hgtw).trans d7
            clear CGt R0 hq y0 y1 y2 e0 e1 e2 d0 d1 d5 d7
            go_wp2_with fail
            go_roundg (t.ns.length - (k + 1))
            case measure => omega
            case rel => exact ⟨k + 1, rfl, (by rw [unhide HTK, if_pos (unhide HO), List.length_append, unhide HC]; rfl), by omega, Nat.le_refl _, B6⟩
        · obtain ⟨A, m, B, Tm, hmd, hmv, hmo, hmp, hml⟩ := (unhide HP).miss n hnm ho
          have CGt := hide (fun W (hW : Below wr.heap.size wr W) => tget_there T.z (.slice an T.ns.length cn) (.slice ai T.ss.length ci) T.ns A B m n.p W ((unhide A4).n.seq.next hW) (by omega) Tm (by omega) (by omega))
          unfold nodeV at CGt
          have hob : (n.o == s) = false := by simpa using ho
          have HO := hide ho
          have HMD := hide hmd
          have HMV := hide hmv
          have HMO := hide hmo
          clear ho Tm hn hnm hmd hmv hmo hml hmp
          have R0 : Hid (CloR wr w.heap.size w2.heap.size T.z (.slice an T.ns.length cn) (.slice ai T.ss.length ci) (.slice (some ⟨gt, ot, none⟩) t.ns.length nc) gt (ot + k * 9) n.p) := ⟨(unhide A4).box, y1, hq8, d0, hgtw⟩
          go_upto_region 8 with fail
          go_cut [12, 13] from 31 to 100 (fun t12 t13 wx => ∃ q, t12 = .pointer (some ⟨q, 0, none⟩) ∧ t13 = .int .i64 0 ∧ Hid (GetX wr wx q m))
          case first =>
            clear HP HKT HTK HC A4 A3 HT4 B3 T3
            go_region_held3 (fun w' => w'.cell? ⟨w2.heap.size, 0, none⟩ = some (.int .i64 T.z) ∧ w'.cell? ⟨w2.heap.size, 1, none⟩ = some (.slice an T.ns.length cn) ∧ w'.cell? ⟨w2.heap.size, 2, none⟩ = some (.slice ai T.ss.length ci) ∧ w'.cell? ⟨w.heap.size, 1, none⟩ = some (.slice (some ⟨gt, ot, none⟩) t.ns.length nc) ∧ w'.cell? ⟨gt, ot + k * 9, none⟩ = some (.string ⟨n.p.toArray⟩)) (first | with_reducible exact (unhide R0).five | with_reducible exact (unhide R0).at.five | with_reducible exact ((unhide R0).next (allocB _ _)).five | with_reducible exact ((unhide R0).next (allocB _ _)).at.five | with_reducible exact ((unhide R0).at.next (allocB _ _)).five | with_reducible exact (unhide R5).five | with_reducible exact ((unhide R5).next (allocB _ _)).five | exact ((unhide R0).next (unhide G5).b).five) (first
              | (go_at_call 13; refine (unhide CGt _ (by first | with_reducible exact (Below.refl _ _).drew | with_reducible exact (allocB _ _).drew | with_reducible exact nnext (Below.refl _ _).drew (allocB _ _))).mono ?_; rintro e w5 ⟨rfl, hb5⟩; have B5 : Hid (Below wr.heap.size wr w5) := hide (nnext (by first | with_reducible exact (Below.refl _ _).drew | with_reducible exact (allocB _ _).drew | with_reducible exact nnext (Below.refl _ _).drew (allocB _ _)) hb5); have R5 := hide ((unhide R0).next (unhide B5)); have h5 := (unhide B5).size; (try (have Z5 : Hid (w5.heap[wr.heap.size]? = some (.cells #[.string ⟨#[]⟩, .string ⟨#[]⟩, .int .i64 0, .int .i64 0, .int .i64 0, .int .i64 0, .int .i64 0, .int .i64 0, .int .i64 0] 32 (0, 0))) := hide ((hb5.block _ (by simp)).trans (heap_alloc_new wr _)); have G5 := hide (get_put m (unhide B5) (Nat.le_refl _) (unhide Z5)); have o5 := zcell9 (unhide Z5); have u0 := o5.cellN 0 _ rfl; have u1 := o5.cellN 1 _ rfl; have u2 := o5.cellN 2 _ rfl; have u3 := o5.cellN 3 _ rfl; have u4 := o5.cellN 4 _ rfl; have u5 := o5.cellN 5 _ rfl; have u6 := o5.cellN 6 _ rfl; have u7 := o5.cellN 7 _ rfl; have u8 := o5.cellN 8 _ rfl; have t0 := o5.frozenN 0; have t1 := o5.frozenN 1; have t2 := o5.frozenN 2; have t3 := o5.frozenN 3; have t4 := o5.frozenN 4; have t5 := o5.frozenN 5; have t6 := o5.frozenN 6; have t7 := o5.frozenN 7; have t8 := o5.frozenN 8; clear o5)); clear hb5))
            all_goals go_wp2_with fail
            all_goals go_meet
            all_goals first
              | exact ⟨wr.heap.size, rfl, rfl, G5⟩
              | exact ⟨w5.heap.size, rfl, rfl, hide (get_new m (unhide B5))⟩
          case rest =>
            obtain ⟨q, rfl, rfl, hq⟩ := hcut
            have R1 := hide ((unhide R0).next (unhide hq).b)
            have B6 := hide (nnext (unhide hB) (unhide hq).b)
            obtain ⟨j0, j1, j2, j3, j4⟩ := (unhide R1).five
            have b1 := (unhide hq).one.cellN 1 _ rfl
            have b5 := (unhide hq).one.cellN 5 _ rfl
            have b7 := (unhide hq).one.cellN 7 _ rfl
            rw [unhide HMD] at b1
            rw [unhide HMV] at b5
            rw [unhide HMO] at b7
            have f1 := ((unhide hq).b.cell (p := ⟨gt, ot + k * 9 + 1, none⟩) hgtw).trans d1
            have f5 := ((unhide hq).b.cell (p := ⟨gt, ot + k * 9 + 5, none⟩) hgtw).trans d5
            have f7 := ((unhide hq).b.cell (p := ⟨gt, ot + k * 9 + 7, none⟩) hgtw).trans d7
            have hk0 : (0 : Int) ≤ (k : Int) := by omega
            have hk1 : (k : Int) < (t.ns.length : Int) := by omega
            clear CGt R0 hq y0 y1 y2 e0 e1 e2 d0 d1 d5 d7
            go_wp2_with fail
            go_region_held3 (fun w' => w'.cell? ⟨q, 1, none⟩ = some (.string ⟨n.d.toArray⟩) ∧ w'.cell? ⟨q, 5, none⟩ = some (.int .i64 n.v) ∧ w'.cell? ⟨q, 7, none⟩ = some (.int .i64 n.o) ∧ w'.cell? ⟨w.heap.size, 1, none⟩ = some (.slice (some ⟨gt, ot, none⟩) t.ns.length nc) ∧ w'.cell? ⟨gt, ot + k * 9 + 1, none⟩ = some (.string ⟨n.d.toArray⟩) ∧ w'.cell? ⟨gt, ot + k * 9 + 5, none⟩ = some (.int .i64 n.v) ∧ w'.cell? ⟨gt, ot + k * 9 + 7, none⟩ = some (.int .i64 n.o)) (exact ⟨b1, b5, b7, j3, f1, f5, f7⟩) (fail)
            go_wp2_with fail
            go_roundg (t.ns.length - (k + 1))
            case measure => omega
            case rel => exact ⟨k + 1, rfl, (by rw [unhide HTK, if_neg (unhide HO), List.append_nil, unhide HC]), by omega, Nat.le_refl _, hide (unhide B6).drew⟩
      · obtain rfl : k = t.ns.length := by omega
        rw [List.take_length] at hol ⊢
        have CP := hide (fun W (hW : Below wr.heap.size wr W) => topen_any T.z (.slice an T.ns.length cn) (.slice ai T.ss.length ci) T.ss s W ((unhide A4).s.seq.next hW) (unhide HP).good.ses)
        rw [decide_eq_false (unhide HP).snot] at CP
        have p1 := (unhide HP).nlen
        have p2 := (unhide HP).elen
        have p3 := (unhide HP).slen
        have p4 := sasc_len (unhide HP).good.ses
        obtain ⟨c, hc⟩ : ∃ c, (ownedP t.ns s).length = c := ⟨_, rfl⟩
        rw [hc] at p1 p2 hol ⊢
        have v1 : ((t.ns.length : Int) - (T.ns.length : Int) == (c : Int)) = true := by simp; omega
        have v2 : ((V.length : Int) == 2 * (c : Int)) = true := by simp; omega
        have v3 : ((t.ss.length : Int) - (T.ss.length : Int) == 1) = true := by simp; omega
        have hls2 : t.ss.length ≤ 2147483648 := by omega
        clear hc p1 p2 p3 HP HKT
        go_wp2_with fail
        refine (unhide CP _ (Below.refl _ _)).mono ?_
        rintro e w6 ⟨rfl, hb6⟩
        have A6 := hide ((unhide A4).next hb6)
        have T6 := ((hb6.block _ hq8).trans (unhide HT4))
        obtain ⟨i0, i1, i2⟩ := (unhide A6).cells
        have z1 : w6.cell? ⟨w.heap.size, 1, none⟩ = some (.slice na t.ns.length nc) := by simp [World.cell?, T6]
        have z2 : w6.cell? ⟨w.heap.size, 2, none⟩ = some (.slice sa t.ss.length sc) := by simp [World.cell?, T6]
        have BF := hide (nnext (unhide B3) (nnext (unhide hB) hb6))
        clear hb6 T6 CP y0 y1 y2 e0 e1 e2
        go_wp2_with fail
        go_ret
        exact ⟨rfl, unhide BF⟩
  · have hb : (E != 0) = true := by simpa using hE
    clear KP KR
    go_wp2_with fail
    refine (grows_true _).mono ?_
    rintro e w3 ⟨rfl, hb3⟩
    have B3 := hide (nnext (unhide B2) hb3)
    clear hb3
    go_wp2_with fail
    go_ret
    exact ⟨rfl, unhide B3⟩

end Go.Proofs.YtkbnneoapcmfiaaDoor
