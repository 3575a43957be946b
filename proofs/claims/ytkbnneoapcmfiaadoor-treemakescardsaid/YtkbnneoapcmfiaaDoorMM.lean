/-
  TreeMakes: what is claimed, as plain lists.
  TreeMakes: the walk.
-/
import Derived.Test.YtkbnneoapcmfiaaDoorMJ
namespace Go.Proofs.YtkbnneoapcmfiaaDoor
open Go.RowKit

def delX (x : WTxn) (z : Int) : WTxn := ⟨z, 4, x.s, x.p, [], 0, 0⟩
structure MakP (t : Tr) (x : WTxn) (T : Tr) (V : List Ev) : Prop where
  good : GoodT t
  gT : GoodT T
  new : ∃ A B, NThere T.ns A (newN x) B x.p
  up : ∃ A u B, NThere T.ns A u B (dirOf x.p)
  once : (kidsP T.ns (dirOf x.p)).countP (fun s => s == stepOf x.p) = 1
  len : T.ns.length = t.ns.length + 1
  ev : V.length = 2
  dl : x.d.length ≤ 256
  pl : x.p.length ≤ 200
structure BackP (t : Tr) (x : WTxn) (z : Int) (T2 : Tr) : Prop where
  len : T2.ns.length = t.ns.length
  tz : T2.z = z
  hit : ∀ (i : Nat) (n : Nd), t.ns[i]? = some n → n.p = dirOf x.p → T2.ns[i]? = some ⟨n.p, n.d, n.c, n.m, z, n.v, n.k + 2, n.o, n.n⟩ ∧ 0 ≤ n.k ∧ n.k ≤ 2147483647
  miss : ∀ (i : Nat) (n : Nd), t.ns[i]? = some n → n.p ≠ dirOf x.p → T2.ns[i]? = some n
theorem drop_bump (q p : List UInt8) (z more : Int) (ns : List Nd) : dropN (bumpAt q z more ns) p = bumpAt q z more (dropN ns p) := by
  rw [dropN, bumpAt, bumpAt, dropN, List.filter_map]
  congr 1
  apply List.filter_congr
  intro n _
  simp only [Function.comp_apply, bump_p]
theorem make_parts {t : Tr} {x : WTxn} (h : appE t x = 0) (ho : x.o = 3) : GoodT t ∧ goodB x.p = true ∧ x.p ≠ [47] ∧ (∃ A B, NGap t.ns A B x.p) ∧ (∃ u ∈ t.ns, u.p = dirOf x.p) ∧ (appT t x).ns = bumpAt (dirOf x.p) x.z 1 (insN t.ns (newN x)) ∧ (appT t x).ss = t.ss ∧ x.s ∈ t.ss ∧ x.d.length ≤ 256 ∧ appV t x = [⟨1, x.p⟩, ⟨4, dirOf x.p⟩] := by
  obtain ⟨ha, hc, _⟩ := app_zero h
  obtain ⟨g, hg, _, _, h2⟩ := adm_zero ha
  have f := fine_of hg
  obtain ⟨p1, p2⟩ := f.path (.inl ho)
  rw [chgE, if_pos ho] at hc
  obtain ⟨c1, ⟨u, c2, _⟩, _, _⟩ := cre_zero hc
  have hu := lookN_some c2
  refine ⟨g, p1, p2, gap_of_look g.nod.asc c1, ⟨u, hu.1, hu.2⟩, ?_, ?_, h2 (by omega), f.d, ?_⟩
  · rw [appT, if_pos h]
    show chgN t x = _
    rw [chgN, if_neg (by omega), if_pos ho, addN]
    rfl
  · rw [appT, if_pos h]
    show chgS t x = _
    rw [chgS, if_neg (by omega), if_neg (by omega)]
  · rw [appV, if_pos h, chgV, if_neg (by omega), if_pos ho]
theorem makes_plain {t : Tr} {x : WTxn} (h : appE t x = 0) (ho : x.o = 3) : MakP t x (appT t x) (appV t x) := by
  obtain ⟨g, p1, p2, ⟨A, B, G⟩, ⟨u, hu1, hu2⟩, eN, _, _, hd, eV⟩ := make_parts h ho
  obtain ⟨gT, _⟩ := app_good h
  have hins : insN t.ns (newN x) = A ++ newN x :: B := G.ins
  have hdne := (dirOf_ne p1 p2)
  have hnew : newN x ∈ (appT t x).ns := by
    rw [eN, hins, bumpAt]
    refine List.mem_map.2 ⟨newN x, by simp, ?_⟩
    rw [if_neg (by show x.p ≠ dirOf x.p; exact fun e => hdne.1 e.symm)]
  have hup : bump x.z 1 u ∈ (appT t x).ns := by
    rw [eN, hins]
    refine bumpAt_mem ?_ hu2
    rw [G.eq] at hu1
    rcases List.mem_append.1 hu1 with e | e <;> simp [e]
  have asc := gT.nod.asc
  obtain ⟨A1, B1, T1⟩ := there_of_look asc (look_mem asc hnew)
  obtain ⟨A2, B2, T2⟩ := there_of_look asc (look_mem asc hup)
  have T1' : NThere (appT t x).ns A1 (newN x) B1 x.p := T1
  have T2' : NThere (appT t x).ns A2 (bump x.z 1 u) B2 (dirOf x.p) := by rw [← hu2]; exact T2
  refine ⟨g, gT, ⟨A1, B1, T1'⟩, ⟨A2, _, B2, T2'⟩, ?_, ?_, by rw [eV]; rfl, hd, goodB_le p1⟩
  · have key : ∀ n ∈ (appT t x).ns, n.p ≠ x.p → ¬ (dirOf n.p = dirOf x.p ∧ stepOf n.p = stepOf x.p) := by
      rintro n hn hne ⟨e1, e2⟩
      have k := gT.nod.ok n hn
      have hnr : n.p ≠ [47] := fun e => hdne.2 (by rw [← e1, e, dirOf_root])
      exact hne (dirOf_step k.path hnr p1 p2 e1 e2)
    have zero : ∀ l : List Nd, (∀ n ∈ l, n ∈ (appT t x).ns ∧ n.p ≠ x.p) → (kidsP l (dirOf x.p)).countP (fun s => s == stepOf x.p) = 0 := by
      intro l hl
      rw [List.countP_eq_zero]
      intro s hs
      obtain ⟨n, hn, rfl⟩ := List.mem_map.1 hs
      obtain ⟨h1, h2⟩ := List.mem_filter.1 hn
      have := key n (hl n h1).1 (hl n h1).2
      simp only [decide_eq_true_eq] at h2
      simp only [beq_iff_eq]
      exact fun e => this ⟨h2, e⟩
    have app : ∀ a b : List Nd, kidsP (a ++ b) (dirOf x.p) = kidsP a (dirOf x.p) ++ kidsP b (dirOf x.p) := fun a b => by simp [kidsP]
    rw [T1'.eq, app, List.countP_append, zero A1 (fun n hn => ⟨by rw [T1'.eq]; simp [hn], bl_ne (T1'.lo n hn)⟩)]
    rw [show newN x :: B1 = [newN x] ++ B1 from rfl, app, List.countP_append, zero B1 (fun n hn => ⟨by rw [T1'.eq]; simp [hn], (bl_ne (T1'.hi n hn)).symm⟩)]
    simp [kidsP, newN]
  · rw [eN, bumpAt_length, hins, G.eq]
    simp; omega
theorem back_plain {t : Tr} {x : WTxn} {z : Int} (h : appE t x = 0) (ho : x.o = 3) : (appE (appT t x) (delX x z) ≠ 0 → z ≤ x.z ∨ zGood z = false ∨ appE (appT t x) (delX x z) = 6) ∧ (appE (appT t x) (delX x z) = 0 → BackP t x z (appT (appT t x) (delX x z))) := by
  obtain ⟨g, p1, p2, ⟨A, B, G⟩, ⟨u, hu1, hu2⟩, eN, eS, hm, _, _⟩ := make_parts h ho
  obtain ⟨gT, hz, _⟩ := app_good h
  have M := makes_plain h ho
  have hs := (fine_of (adm_zero (app_zero h).1).2.1).s
  constructor
  · intro hE
    by_cases h1 : z ≤ x.z
    · exact .inl h1
    · cases h2 : zGood z with
      | false => exact .inr (.inl rfl)
      | true =>
        refine .inr (.inr ?_)
        have hgd : gdE (delX x z) = 0 := by
          have hn : numB (delX x z) = true := numB_iff.2 ⟨h2, cntB_iff.2 hs, rfl, rfl⟩
          have ho2 : opB (delX x z).o = true := rfl
          have hf : fmB (delX x z) = true := by simp [fmB, delX, p1, p2]
          rw [gdE, if_pos ho2, if_pos hn, if_pos (by simp [delX]), if_pos hf]
        have hadm : admE (appT t x) (delX x z) = 0 := by
          rw [adm_rest (goodT_true.2 gT) hgd, if_neg (by rw [hz]; exact h1), if_neg (fun e => by have := e.1; simp [delX] at this), if_neg (fun e => e.2 (by rw [eS]; exact hm))]
        rw [appE_chg hadm] at hE ⊢
        obtain ⟨A1, B1, T1⟩ := M.new
        have hce : chgE (appT t x) (delX x z) = 0 := by
          rw [chgE, if_neg (by simp [delX]), if_pos (show (delX x z).o = 4 from rfl), delE]
          show (match lookN (appT t x).ns x.p with | none => (7 : Int) | some n => if n.n ≠ 0 then 10 else 0) = 0
          rw [T1.look]
          simp [newN]
        cases hf : fullN (chgN (appT t x) (delX x z)) with
        | false => exact absurd (chgF_ok hce hf) hE
        | true => exact chgF_full hce hf
  · intro hE
    have e2 : (appT (appT t x) (delX x z)).ns = bumpAt (dirOf x.p) z (-1) (bumpAt (dirOf x.p) x.z 1 t.ns) := by
      rw [appT, if_pos hE]
      show chgN (appT t x) (delX x z) = _
      rw [chgN, if_neg (by simp [delX]), if_neg (by simp [delX]), if_pos (show (delX x z).o = 4 from rfl)]
      show rmN z (appT t x).ns x.p = _
      rw [rmN, eN, drop_bump]
      congr 2
      have hins : insN t.ns (newN x) = A ++ newN x :: B := G.ins
      have T0 : NThere (insN t.ns (newN x)) A (newN x) B x.p := ⟨hins, rfl, G.lo, G.hi⟩
      rw [T0.drop, G.eq]
    refine ⟨by rw [e2, bumpAt_length, bumpAt_length], (app_good hE).2.1, fun i n hn hp => ?_, fun i n hn hp => ?_⟩
    · have k := g.nod.ok n (List.mem_of_getElem? hn)
      refine ⟨?_, k.k0, g.cap n (List.mem_of_getElem? hn)⟩
      rw [e2, bumpAt, bumpAt, List.map_map, List.getElem?_map, hn]
      simp only [Option.map_some, Function.comp_apply, if_pos hp, bump]
      have e3 : n.k + 1 + 1 = n.k + 2 := by omega
      have e4 : n.n + 1 + -1 = n.n := by omega
      rw [e3, e4]
    · rw [e2, bumpAt, bumpAt, List.map_map, List.getElem?_map, hn]
      simp [hp]

end Go.Proofs.YtkbnneoapcmfiaaDoor

namespace Go.Proofs.YtkbnneoapcmfiaaDoor
open Go.RowKit

theorem step_count {l : List (List UInt8)} {k : Nat} {y : List UInt8} (hy : l[k]? = some y) (s : List UInt8) : (l.take (k + 1)).countP (fun a => a == s) = (l.take k).countP (fun a => a == s) + (if y = s then 1 else 0) := by
  rw [List.take_add_one, hy, List.countP_append]
  simp [List.countP_cons]

/-- two nodes in boxes -/
structure Two (W wx : World) (q1 q2 : Nat) (m n : Nd) : Prop where
  a : OneR wx q1 m
  b : OneR wx q2 n
  ne : q1 ≠ q2
  b1 : W.heap.size ≤ q1
  bl : Below W.heap.size W wx
theorem two_a (W : World) (m n : Nd) : Two W (((W.alloc (.cells #[.string ⟨m.p.toArray⟩, .string ⟨m.d.toArray⟩, .int .i64 m.c, .int .i64 m.m, .int .i64 m.q, .int .i64 m.v, .int .i64 m.k, .int .i64 m.o, .int .i64 m.n] 32)).alloc (.cells #[.string ⟨n.p.toArray⟩, .string ⟨n.d.toArray⟩, .int .i64 n.c, .int .i64 n.m, .int .i64 n.q, .int .i64 n.v, .int .i64 n.k, .int .i64 n.o, .int .i64 n.n] 32))) W.heap.size (W.heap.size + 1) m n := by
  refine ⟨(one_newN W m).keptN (allocB _ _), ?_, by omega, Nat.le_refl _, nnext (allocB _ _) (allocB _ _)⟩
  have := one_newN (W.alloc (.cells #[.string ⟨m.p.toArray⟩, .string ⟨m.d.toArray⟩, .int .i64 m.c, .int .i64 m.m, .int .i64 m.q, .int .i64 m.v, .int .i64 m.k, .int .i64 m.o, .int .i64 m.n] 32)) n
  rwa [show (W.alloc (.cells #[.string ⟨m.p.toArray⟩, .string ⟨m.d.toArray⟩, .int .i64 m.c, .int .i64 m.m, .int .i64 m.q, .int .i64 m.v, .int .i64 m.k, .int .i64 m.o, .int .i64 m.n] 32)).heap.size = W.heap.size + 1 by simp] at this
theorem two_b (W : World) (m n : Nd) : Two W (((W.alloc (.cells #[.string ⟨n.p.toArray⟩, .string ⟨n.d.toArray⟩, .int .i64 n.c, .int .i64 n.m, .int .i64 n.q, .int .i64 n.v, .int .i64 n.k, .int .i64 n.o, .int .i64 n.n] 32)).alloc (.cells #[.string ⟨m.p.toArray⟩, .string ⟨m.d.toArray⟩, .int .i64 m.c, .int .i64 m.m, .int .i64 m.q, .int .i64 m.v, .int .i64 m.k, .int .i64 m.o, .int .i64 m.n] 32))) (W.heap.size + 1) W.heap.size m n := by
  refine ⟨?_, (one_newN W n).keptN (allocB _ _), by omega, by omega, nnext (allocB _ _) (allocB _ _)⟩
  have := one_newN (W.alloc (.cells #[.string ⟨n.p.toArray⟩, .string ⟨n.d.toArray⟩, .int .i64 n.c, .int .i64 n.m, .int .i64 n.q, .int .i64 n.v, .int .i64 n.k, .int .i64 n.o, .int .i64 n.n] 32)) m
  rwa [show (W.alloc (.cells #[.string ⟨n.p.toArray⟩, .string ⟨n.d.toArray⟩, .int .i64 n.c, .int .i64 n.m, .int .i64 n.q, .int .i64 n.v, .int .i64 n.k, .int .i64 n.o, .int .i64 n.n] 32)).heap.size = W.heap.size + 1 by simp] at this
theorem Two.drew {W wx : World} {q1 q2 : Nat} {m n : Nd} (h : Two W wx q1 q2 m n) : Two W wx.drew q1 q2 m n := ⟨h.a.keptN (Below.refl _ _).drew, h.b.keptN (Below.refl _ _).drew, h.ne, h.b1, nnext h.bl (Below.refl _ _).drew⟩

set_option maxRecDepth 20000 in
set_option maxHeartbeats 8000000 in
theorem treeMakes_walk (t : Tr) (vn vs : Value) (x : WTxn) (z : Int) (w : World) (hn : SeqV w vn t.ns) (hs : SeqV w vs t.ss) (hw : WfT t) (hl : t.ns.length * 88 ≤ 140737488355328) (hls : t.ss.length * 8 ≤ 140737488355328) (hd : x.d.length ≤ 140737488355328) :
    Calls Tryd.prog 6 #[.agg #[.int .i64 t.z, vn, vs], txnV x, .int .i64 z] w fun e w' => e = .returned (.bool true) ∧ Below w.heap.size w w' := by
  have CO := hide (fun W1 (h1 : Below w.heap.size w W1) W (hW : Below W1.heap.size W1 W) => own_any t vn vs W (hn.next (nnext h1 hW)) (hs.next (nnext h1 hW)) hl hls)
  have CA := hide (fun (W : World) (vn vs : Value) (hn : SeqV W vn t.ns) (hs : SeqV W vs t.ss) => apply_any t vn vs ⟨x.z, 3, x.s, x.p, x.d, x.v, x.w⟩ W hn hs hw hd)
  have CA2 := hide (fun (g : GoodT (appT t ⟨x.z, 3, x.s, x.p, x.d, x.v, x.w⟩)) (W : World) (vn vs : Value) (hn : SeqV W vn (appT t ⟨x.z, 3, x.s, x.p, x.d, x.v, x.w⟩).ns) (hs : SeqV W vs (appT t ⟨x.z, 3, x.s, x.p, x.d, x.v, x.w⟩).ss) => apply_any (appT t ⟨x.z, 3, x.s, x.p, x.d, x.v, x.w⟩) vn vs (delX ⟨x.z, 3, x.s, x.p, x.d, x.v, x.w⟩ z) W hn hs g.wf (by simp [delX]))
  have KP := hide (fun h => makes_plain (t := t) (x := ⟨x.z, 3, x.s, x.p, x.d, x.v, x.w⟩) h rfl)
  have KQ := hide (fun h => back_plain (t := t) (x := ⟨x.z, 3, x.s, x.p, x.d, x.v, x.w⟩) (z := z) h rfl)
  have KR := hide (fun W (hW : Below w.heap.size w W) => hn.next hW)
  unfold GivesA at CA CA2
  obtain ⟨T, hT⟩ : ∃ T, appT t ⟨x.z, 3, x.s, x.p, x.d, x.v, x.w⟩ = T := ⟨_, rfl⟩
  obtain ⟨V, hV⟩ : ∃ V, appV t ⟨x.z, 3, x.s, x.p, x.d, x.v, x.w⟩ = V := ⟨_, rfl⟩
  obtain ⟨E, hE⟩ : ∃ E, appE t ⟨x.z, 3, x.s, x.p, x.d, x.v, x.w⟩ = E := ⟨_, rfl⟩
  rw [hT, hV, hE] at CA KP
  rw [hT] at CA2
  rw [hT, hE] at KQ
  clear hT hV hE
  obtain ⟨T2, hT2⟩ : ∃ T2, appT T (delX ⟨x.z, 3, x.s, x.p, x.d, x.v, x.w⟩ z) = T2 := ⟨_, rfl⟩
  obtain ⟨V2, hV2⟩ : ∃ V2, appV T (delX ⟨x.z, 3, x.s, x.p, x.d, x.v, x.w⟩ z) = V2 := ⟨_, rfl⟩
  obtain ⟨E2, hE2⟩ : ∃ E2, appE T (delX ⟨x.z, 3, x.s, x.p, x.d, x.v, x.w⟩ z) = E2 := ⟨_, rfl⟩
  rw [hT2, hV2, hE2] at CA2
  rw [hT2, hE2] at KQ
  clear hT2 hV2 hE2
  obtain ⟨na, nc, rfl⟩ := seq_slice hn
  obtain ⟨sa, sc, rfl⟩ := seq_slice hs
  clear hn hs hw
  obtain ⟨xz, xo, xs, xp, xd, xv, xw⟩ := x
  unfold txnV delX at *
  simp only at *
  have X00 := hide (TX.new w t.z (.slice na t.ns.length nc) (.slice sa t.ss.length sc) ⟨xz, 3, xs, xp, xd, xv, xw⟩)
  have B00 : Hid (Below w.heap.size w ((w.alloc (.cells #[.int .i64 t.z, .slice na t.ns.length nc, .slice sa t.ss.length sc] 25)).alloc (.cells #[.int .i64 xz, .int .i64 3, .int .i64 xs, .string ⟨xp.toArray⟩, .string ⟨xd.toArray⟩, .int .i64 xv, .int .i64 xw] 43))) := hide (nnext (allocB _ _) (allocB _ _))
  obtain ⟨W1, hW1⟩ : ∃ W1, (w.alloc (.cells #[.int .i64 t.z, .slice na t.ns.length nc, .slice sa t.ss.length sc] 25)).alloc (.cells #[.int .i64 xz, .int .i64 3, .int .i64 xs, .string ⟨xp.toArray⟩, .string ⟨xd.toArray⟩, .int .i64 xv, .int .i64 xw] 43) = W1 := ⟨_, rfl⟩
  have HW1 := hide hW1
  rw [hW1] at X00 B00
  have C1 := hide (unhide CO W1 (unhide B00))
  obtain ⟨hq1, hq2⟩ := (unhide X00).lt
  clear hW1 CO
  go_enter Tryd.func6, Tryd.ntmps6
  go_upto_region 2 with fail
  simp only [unhide HW1]
  go_cut [7, 8, 9] from 25 (fun t7 t8 t9 wx => ∃ q an cn ai ci ae ce, t7 = .pointer (some ⟨q, 0, none⟩) ∧ t8 = .slice ae (V).length ce ∧ t9 = .int .i64 E ∧ Hid (AppX W1 wx q T V (.slice an (T).ns.length cn) (.slice ai (T).ss.length ci) (.slice ae (V).length ce)))
  case first =>
    clear KP KR HW1 B00 KQ CA2
    go_region_held3 (fun w' => w'.cell? ⟨w.heap.size, 0, none⟩ = some (.int .i64 t.z) ∧ w'.cell? ⟨w.heap.size, 1, none⟩ = some (.slice na t.ns.length nc) ∧ w'.cell? ⟨w.heap.size, 2, none⟩ = some (.slice sa t.ss.length sc) ∧ w'.cell? ⟨(w.heap.size + 1), 0, none⟩ = some (.int .i64 xz) ∧ w'.cell? ⟨(w.heap.size + 1), 1, none⟩ = some (.int .i64 3) ∧ w'.cell? ⟨(w.heap.size + 1), 2, none⟩ = some (.int .i64 xs) ∧ w'.cell? ⟨(w.heap.size + 1), 3, none⟩ = some (.string ⟨xp.toArray⟩) ∧ w'.cell? ⟨(w.heap.size + 1), 4, none⟩ = some (.string ⟨xd.toArray⟩) ∧ w'.cell? ⟨(w.heap.size + 1), 5, none⟩ = some (.int .i64 xv) ∧ w'.cell? ⟨(w.heap.size + 1), 6, none⟩ = some (.int .i64 xw)) (first | with_reducible exact (unhide X00).ten | with_reducible exact (unhide X00).drew.ten | with_reducible exact ((unhide X00).next (allocB _ _)).ten | with_reducible exact ((unhide X00).next (allocB _ _)).drew.ten | with_reducible exact ((unhide X00).drew.next (allocB _ _)).ten | with_reducible exact (unhide aX1).ten | with_reducible exact ((unhide aX1).next (allocB _ _)).ten | with_reducible exact (unhide aX2).ten | with_reducible exact ((unhide aX2).next (allocB _ _)).ten | with_reducible exact ((((unhide aX2).other _ (by simp only; omega) (by simp only; omega)).other _ (by simp only; omega) (by simp only; omega)).other _ (by simp only; omega) (by simp only; omega)).ten) (first
      | (go_at_call 26; refine (unhide C1 _ (by first | with_reducible exact (Below.refl _ _).drew | with_reducible exact (allocB _ _).drew | with_reducible exact nnext (Below.refl _ _).drew (allocB _ _))).mono ?_; rintro e aw1 ⟨avn1, avs1, rfl, on1, os1, hb1⟩; have aB1 : Hid (Below W1.heap.size W1 aw1) := hide (nnext (by first | with_reducible exact (Below.refl _ _).drew | with_reducible exact (allocB _ _).drew | with_reducible exact nnext (Below.refl _ _).drew (allocB _ _)) hb1); have aN1 := hide on1.seq; have aS1 := hide os1.seq; have aX1 := hide ((unhide X00).next (unhide aB1)); have ah1 := (unhide aB1).size; (try have aZ1 : Hid (aw1.heap[W1.heap.size]? = some (.cells #[.int .i64 0, .slice none 0 0, .slice none 0 0] 25 (0, 0))) := hide ((hb1.block _ (by simp)).trans (heap_alloc_new W1 _))); clear on1 os1 hb1)
      | (go_at_call 21; refine (unhide CA _ _ _ (by first | with_reducible exact unhide aN1 | with_reducible exact (unhide aN1).next (allocB _ _)) (by first | with_reducible exact unhide aS1 | with_reducible exact (unhide aS1).next (allocB _ _))).mono ?_; rintro e aw2 ⟨avn2, avs2, ave2, rfl, n2, s2, e2, hb2⟩; have aB2 : Hid (Below W1.heap.size W1 aw2) := (by first | with_reducible exact hide (nnext (unhide aB1) hb2) | with_reducible exact hide (nnext (unhide aB1) (nbox_then hb2))); have aX2 := hide ((unhide X00).next (unhide aB2)); have ah2 := hb2.size; (try (have ak1 := (Array.getElem?_eq_some_iff.1 (unhide aZ1)).1; have aZ2 := hide ((hb2.block _ ak1).trans (unhide aZ1)); obtain ⟨az0, az1, az2, az3, az4, az5⟩ := zcells (unhide aZ2))); (try (have aY2 : Hid (aw2.heap[aw1.heap.size]? = some (.cells #[.int .i64 0, .slice none 0 0, .slice none 0 0] 25 (0, 0))) := hide ((hb2.block _ (by simp)).trans (heap_alloc_new aw1 _)); obtain ⟨ay0, ay1, ay2, ay3, ay4, ay5⟩ := zcells (unhide aY2))); obtain ⟨aan, acn, rfl, _⟩ := n2.slice; obtain ⟨aai, aci, rfl, _⟩ := s2.slice; obtain ⟨aae, ace, rfl, _⟩ := e2.slice; have an2 := hide n2; have as2 := hide s2; have ae2 := hide e2; clear n2 s2 e2 hb2))
    all_goals go_wp2_with fail
    all_goals go_meet
    all_goals first
      | exact ⟨_, aan, acn, aai, aci, aae, ace, rfl, rfl, rfl, hide (app_new (unhide aB2) ah1 (unhide an2) (unhide as2) (unhide ae2))⟩
      | exact ⟨_, aan, acn, aai, aci, aae, ace, rfl, rfl, rfl, hide (app_put (unhide aB2) ah1 (by simp) (unhide aY2) (unhide an2) (unhide as2) (unhide ae2))⟩
      | exact ⟨_, aan, acn, aai, aci, aae, ace, rfl, rfl, rfl, hide (app_put (unhide aB2) (Nat.le_refl _) ak1 (unhide aZ2) (unhide an2) (unhide as2) (unhide ae2))⟩
  case rest =>
    obtain ⟨q, an, cn, ai, ci, ae, ce, rfl, rfl, rfl, A1⟩ := hcut
    have B1 := hide (nnext (unhide B00) (unhide A1).b)
    by_cases hE : E = 0
    · subst hE
      have P := unhide KP rfl
      obtain ⟨Q1, Q2⟩ := unhide KQ rfl
      have HQ1 := hide Q1
      have HQ2 := hide Q2
      obtain ⟨g, gT, ⟨An, Bn, Tn⟩, ⟨Au, u, Bu, Tu⟩, once, plen, pev, pdl, ppl⟩ := P
      simp only at Tn Tu once pdl ppl
      have few := g.nod.few
      have fewT := gT.nod.few
      have CA3 := hide (unhide CA2 gT)
      have CGt := hide (fun W (hn : SeqV W (.slice an T.ns.length cn) T.ns) => tget_there T.z (.slice an T.ns.length cn) (.slice ai T.ss.length ci) T.ns An Bn _ xp W hn (by omega) Tn (by show xp.length ≤ _; omega) (by show xd.length ≤ _; omega))
      have CKd := hide (fun W (hn : SeqV W (.slice an T.ns.length cn) T.ns) => tkids_there T.z (.slice an T.ns.length cn) (.slice ai T.ss.length ci) T.ns Au Bu u (dirOf xp) W hn (by omega) Tu)
      unfold nodeV newN at CGt
      simp only at CGt
      have HON := hide once
      have HLE := hide plen
      have HEV := hide pev
      clear CA C1 HW1 KP KQ Q1 Q2 CA2 gT g Tn Tu once plen pev pdl ppl
      go_wp2_with fail
      refine (grows_true _).mono ?_
      rintro e w2 ⟨rfl, hb2⟩
      have A2 := hide ((unhide A1).next hb2)
      have X2 := hide ((unhide X00).next (unhide A2).b)
      have B2 := hide (nnext (unhide B1) hb2)
      obtain ⟨d0, d1, d2⟩ := (unhide A2).cells
      obtain ⟨x0, x1, x2, x3, x4, x5, x6, x7, x8, x9⟩ := (unhide X2).ten
      clear hb2
      go_wp2_with fail
      refine (unhide CGt _ (unhide A2).n.seq).mono ?_
      rintro e w3 ⟨rfl, hb3⟩
      have hb3' := nnext hb3 (allocB w3 (.cells #[.string ⟨(⟨xp, xd, xz, xz, xz, 0, 0, xw, 0⟩ : Nd).p.toArray⟩, .string ⟨(⟨xp, xd, xz, xz, xz, 0, 0, xw, 0⟩ : Nd).d.toArray⟩, .int .i64 (⟨xp, xd, xz, xz, xz, 0, 0, xw, 0⟩ : Nd).c, .int .i64 (⟨xp, xd, xz, xz, xz, 0, 0, xw, 0⟩ : Nd).m, .int .i64 (⟨xp, xd, xz, xz, xz, 0, 0, xw, 0⟩ : Nd).q, .int .i64 (⟨xp, xd, xz, xz, xz, 0, 0, xw, 0⟩ : Nd).v, .int .i64 (⟨xp, xd, xz, xz, xz, 0, 0, xw, 0⟩ : Nd).k, .int .i64 (⟨xp, xd, xz, xz, xz, 0, 0, xw, 0⟩ : Nd).o, .int .i64 (⟨xp, xd, xz, xz, xz, 0, 0, xw, 0⟩ : Nd).n] 32))
      have N3 : Hid (OneR (w3.alloc (.cells #[.string ⟨(⟨xp, xd, xz, xz, xz, 0, 0, xw, 0⟩ : Nd).p.toArray⟩, .string ⟨(⟨xp, xd, xz, xz, xz, 0, 0, xw, 0⟩ : Nd).d.toArray⟩, .int .i64 (⟨xp, xd, xz, xz, xz, 0, 0, xw, 0⟩ : Nd).c, .int .i64 (⟨xp, xd, xz, xz, xz, 0, 0, xw, 0⟩ : Nd).m, .int .i64 (⟨xp, xd, xz, xz, xz, 0, 0, xw, 0⟩ : Nd).q, .int .i64 (⟨xp, xd, xz, xz, xz, 0, 0, xw, 0⟩ : Nd).v, .int .i64 (⟨xp, xd, xz, xz, xz, 0, 0, xw, 0⟩ : Nd).k, .int .i64 (⟨xp, xd, xz, xz, xz, 0, 0, xw, 0⟩ : Nd).o, .int .i64 (⟨xp, xd, xz, xz, xz, 0, 0, xw, 0⟩ : Nd).n] 32)) w3.heap.size (⟨xp, xd, xz, xz, xz, 0, 0, xw, 0⟩ : Nd)) := one_newN w3 _
      have A3 := hide ((unhide A2).next hb3')
      have X3 := hide ((unhide X2).next hb3')
      have B3 := hide (nnext (unhide B2) hb3')
      obtain ⟨W3, hW3⟩ : ∃ W3, w3.alloc (.cells #[.string ⟨(⟨xp, xd, xz, xz, xz, 0, 0, xw, 0⟩ : Nd).p.toArray⟩, .string ⟨(⟨xp, xd, xz, xz, xz, 0, 0, xw, 0⟩ : Nd).d.toArray⟩, .int .i64 (⟨xp, xd, xz, xz, xz, 0, 0, xw, 0⟩ : Nd).c, .int .i64 (⟨xp, xd, xz, xz, xz, 0, 0, xw, 0⟩ : Nd).m, .int .i64 (⟨xp, xd, xz, xz, xz, 0, 0, xw, 0⟩ : Nd).q, .int .i64 (⟨xp, xd, xz, xz, xz, 0, 0, xw, 0⟩ : Nd).v, .int .i64 (⟨xp, xd, xz, xz, xz, 0, 0, xw, 0⟩ : Nd).k, .int .i64 (⟨xp, xd, xz, xz, xz, 0, 0, xw, 0⟩ : Nd).o, .int .i64 (⟨xp, xd, xz, xz, xz, 0, 0, xw, 0⟩ : Nd).n] 32) = W3 := ⟨_, rfl⟩
      obtain ⟨qn, hqn⟩ : ∃ qn, w3.heap.size = qn := ⟨_, rfl⟩
      rw [hW3] at N3 A3 X3 B3
      rw [hqn] at N3
      have HW3 := hide hW3
      have HQN := hide hqn
      simp only at hW3
      obtain ⟨e0, e1, e2⟩ := (unhide A3).cells
      obtain ⟨y0, y1, y2, y3, y4, y5, y6, y7, y8, y9⟩ := (unhide X3).ten
      clear hb3 hb3' hW3 hqn CGt d0 d1 d2 x0 x1 x2 x3 x4 x5 x6 x7 x8 x9
      go_upto_region 6 with fail
      simp only [unhide HW3, unhide HQN]
      clear HW3 HQN
      go_wp2_with fail
      refine (split_any xp _).mono ?_
      rintro e w4 ⟨rfl, hb4⟩
      have A4 := hide ((unhide A3).next hb4)
      have X4 := hide ((unhide X3).next hb4)
      have N4 := hide ((unhide N3).keptN hb4)
      have B4 := hide (nnext (unhide B3) hb4)
      obtain ⟨f0, f1, f2⟩ := (unhide A4).cells
      clear hb4 e0 e1 e2 y0 y1 y2 y3 y4 y5 y6 y7 y8 y9 A3 X3 N3 B3
      go_wp2_with fail
      refine (unhide CKd _ (unhide A4).n.seq).mono ?_
      rintro e w5 ⟨v5, rfl, o5, hb5⟩
      obtain ⟨ka, kc, rfl, _⟩ := o5.slice
      have A5 := hide ((unhide A4).next hb5)
      have X5 := hide ((unhide X4).next hb5)
      have N5 := hide ((unhide N4).keptN hb5)
      have B5 := hide (nnext (unhide B4) hb5)
      have hLl : (kidsP T.ns (dirOf xp)).length ≤ 400 := by
        rw [kidsP_len]
        have h1 : kidsN T.ns (dirOf xp) ≤ T.ns.length := List.countP_le_length
        omega
      obtain ⟨L, hL⟩ : ∃ L, kidsP T.ns (dirOf xp) = L := ⟨_, rfl⟩
      rw [hL] at o5 HON hLl
      rw [hL]
      have O5 := hide o5
      clear hb5 f0 f1 f2 hL o5 CKd A4 X4 N4 B4
      obtain ⟨st, hst⟩ : ∃ st, stepOf xp = st := ⟨_, rfl⟩
      rw [hst] at HON
      rw [hst]
      clear hst
      go_wp2_with fail
      go_loopg [17, 18] L.length (fun kx s17 s18 wr => ∃ k : Nat, s18 = .int .i64 k ∧ s17 = .int .i64 ((L.take k).countP (fun a => a == st) : Nat) ∧ k ≤ L.length ∧ L.length - k ≤ kx ∧ w5 = wr)
      case atStart => exact ⟨0, rfl, rfl, Nat.zero_le _, Nat.le_refl _, rfl⟩
      case round =>
        obtain ⟨k, rfl, rfl, hk, hg, hwr⟩ := hrel
        subst hwr
        by_cases hlt : k < L.length
        · obtain ⟨y, hy⟩ : ∃ y, L[k]? = some y := ⟨_, List.getElem?_eq_getElem hlt⟩
          obtain ⟨kb, ko, kc', he, hkb, hrow, _, _⟩ := seq_row (unhide O5).seq (by intro h0; rw [h0] at hlt; simp at hlt)
          simp only [Value.slice.injEq] at he
          obtain ⟨rfl, _, rfl⟩ := he
          have r0 := hrow.s0 hy
          have HC := hide (step_count hy st)
          have hcl : (L.take k).countP (fun a => a == st) ≤ 400 := by
            have h1 : (L.take k).countP (fun a => a == st) ≤ (L.take k).length := List.countP_le_length
            rw [List.length_take] at h1
            omega
          obtain ⟨c, hc⟩ : ∃ c, (L.take k).countP (fun a => a == st) = c := ⟨_, rfl⟩
          rw [hc] at HC hcl
          rw [hc]
          clear hc hrow hy
          by_cases hys : y = st
          · have hyb : (y == st) = true := by simpa using hys
            have HY := hide hys
            clear hys
            go_wp2_with fail
            go_roundg (L.length - (k + 1))
            case measure => omega
            case rel => exact ⟨k + 1, rfl, (by rw [unhide HC, if_pos (unhide HY)]; rfl), by omega, Nat.le_refl _, rfl⟩
          · have hyb : (y == st) = false := by simpa using hys
            have HY := hide hys
            clear hys
            go_wp2_with fail
            go_roundg (L.length - (k + 1))
            case measure => omega
            case rel => exact ⟨k + 1, rfl, (by rw [unhide HC, if_neg (unhide HY)]; rfl), by omega, Nat.le_refl _, rfl⟩
        · obtain rfl : k = L.length := by omega
          rw [List.take_length, unhide HON]
          obtain ⟨f0, f1, f2⟩ := (unhide A5).cells
          obtain ⟨y0, y1, y2, y3, y4, y5, y6, y7, y8, y9⟩ := (unhide X5).ten
          have n1 := (unhide N5).cellN 1 _ rfl
          have n2 := (unhide N5).cellN 2 _ rfl
          have n3 := (unhide N5).cellN 3 _ rfl
          have n4 := (unhide N5).cellN 4 _ rfl
          have n5 := (unhide N5).cellN 5 _ rfl
          have n6 := (unhide N5).cellN 6 _ rfl
          have n7 := (unhide N5).cellN 7 _ rfl
          have n8 := (unhide N5).cellN 8 _ rfl
          have v1 : ((V.length : Int) != 2) = false := by rw [unhide HEV]; rfl
          have v2 : ((T.ns.length : Int) - (t.ns.length : Int) != 1) = false := by rw [unhide HLE]; simp; omega
          clear O5 HON HEV HLE N5 hk hg hlt
          go_wp2_with fail
          refine (unhide CA3 _ _ _ (unhide A5).n.seq (unhide A5).s.seq).mono ?_
          rintro e w6 ⟨vn6, vs6, ve6, rfl, n6', s6', e6', hb6⟩
          obtain ⟨bn, dn, rfl, _⟩ := n6'.slice
          obtain ⟨bi, di, rfl, _⟩ := s6'.slice
          obtain ⟨be, de, rfl, _⟩ := e6'.slice
          have A6 : Hid (AppX w5 (w6.alloc (.cells #[.int .i64 T2.z, .slice bn T2.ns.length dn, .slice bi T2.ss.length di] 25)) w6.heap.size T2 V2 (.slice bn T2.ns.length dn) (.slice bi T2.ss.length di) (.slice be V2.length de)) := hide (app_new hb6 (Nat.le_refl _) n6' s6' e6')
          have X6 := hide ((unhide X5).next (unhide A6).b)
          have B6 := hide (nnext (unhide B5) (unhide A6).b)
          obtain ⟨W6, hW6⟩ : ∃ W6, w6.alloc (.cells #[.int .i64 T2.z, .slice bn T2.ns.length dn, .slice bi T2.ss.length di] 25) = W6 := ⟨_, rfl⟩
          obtain ⟨qb, hqb⟩ : ∃ qb, w6.heap.size = qb := ⟨_, rfl⟩
          rw [hW6, hqb] at A6
          rw [hW6] at X6 B6
          have HW6 := hide hW6
          have HQB := hide hqb
          obtain ⟨g0, g1, g2⟩ := (unhide A6).cells
          obtain ⟨z0, z1, z2, z3, z4, z5, z6, z7, z8, z9⟩ := (unhide X6).ten
          clear n6' s6' e6' hb6 hW6 hqb f0 f1 f2 y0 y1 y2 y3 y4 y5 y6 y7 y8 y9 n1 n2 n3 n4 n5 n6 n7 n8 CA3
          go_upto_region 17 with fail
          simp only [unhide HW6, unhide HQB]
          clear HW6 HQB
          by_cases hE2 : E2 = 0
          · have P2 := unhide HQ2 hE2
            subst hE2
            obtain ⟨plen, ptz, hit, miss⟩ := P2
            simp only at hit miss
            rw [plen] at g1
            rw [ptz] at g0
            have HI := hide hit
            have HM := hide miss
            have KA : ∀ W, Below W6.heap.size W6 W → ∀ (i : Nat) (m : Nd), T2.ns[i]? = some m → ∃ g off, bn = some ⟨g, off, none⟩ ∧ g < W6.heap.size ∧ RowAt W g off (cellsL T2.ns) := by
              intro W hW i m hm
              obtain ⟨g, off, cap, e, hg, hr, _, _⟩ := seq_row (unhide A6).n.seq (by intro h0; rw [h0] at hm; simp at hm)
              simp only [Value.slice.injEq] at e
              exact ⟨g, off, e.1, hg, hr.kept hW hg⟩
            have KT : ∀ W, Below W6.heap.size W6 W → ∀ (i : Nat) (m : Nd), t.ns[i]? = some m → ∃ g off, na = some ⟨g, off, none⟩ ∧ g < W6.heap.size ∧ RowAt W g off (cellsL t.ns) := by
              intro W hW i m hm
              obtain ⟨g, off, cap, e, hg, hr, _, _⟩ := seq_row (unhide KR W6 (unhide B6)) (by intro h0; rw [h0] at hm; simp at hm)
              simp only [Value.slice.injEq] at e
              exact ⟨g, off, e.1, hg, hr.kept hW hg⟩
            have HKA := hide KA
            have HKT := hide KT
            have HPT := hide ptz
            have HPL := hide plen
            clear hit miss KA KT KR HQ1 HQ2 ptz plen
            go_wp2_with fail
            go_loopg [22] t.ns.length (fun kx s22 wr => ∃ k : Nat, s22 = .int .i64 k ∧ k ≤ t.ns.length ∧ t.ns.length - k ≤ kx ∧ Hid (Below W6.heap.size W6 wr))
            case atStart => exact ⟨0, rfl, Nat.zero_le _, Nat.le_refl _, hide (by first | with_reducible exact Below.refl _ _ | with_reducible exact (Below.refl _ _).drew)⟩
            case round =>
              obtain ⟨k, rfl, hk, hg, hB⟩ := hrel
              have X7 := hide ((unhide X6).next (unhide hB))
              have A7 := hide ((unhide A6).next (unhide hB))
              obtain ⟨e0, e1, e2⟩ := (unhide A7).cells
              rw [unhide HPL] at e1
              obtain ⟨y0, y1, y2, y3, y4, y5, y6, y7, y8, y9⟩ := (unhide X7).ten
              have hszr := (unhide hB).size
              have hq7 := (unhide A7).lt
              obtain ⟨hq8, hq9⟩ := (unhide X7).lt
              clear g0 g1 g2 z0 z1 z2 z3 z4 z5 z6 z7 z8 z9 X7 A7
              by_cases hlt : k < t.ns.length
              · obtain ⟨n, hn⟩ : ∃ n, t.ns[k]? = some n := ⟨_, List.getElem?_eq_getElem hlt⟩
                obtain ⟨gt, ot, rfl, hgt, qt⟩ := unhide HKT wr (unhide hB) k n hn
                have d0 := qt.n0 hn
                have d1 := qt.n1 hn
                have d2 := qt.n2 hn
                have d3 := qt.n3 hn
                have d4 := qt.n4 hn
                have d5 := qt.n5 hn
                have d6 := qt.n6 hn
                have d7 := qt.n7 hn
                have d8 := qt.n8 hn
                have hgtw : gt < wr.heap.size := by omega
                by_cases hp : n.p = dirOf xp
                · skip
                  obtain ⟨hm, hk0, hk1⟩ := unhide HI k n hn hp
                  obtain ⟨ga, oa, rfl, hga, qa⟩ := unhide HKA wr (unhide hB) k _ hm
                  have r0 := qa.n0 hm
                  have r1 := qa.n1 hm
                  have r2 := qa.n2 hm
                  have r3 := qa.n3 hm
                  have r4 := qa.n4 hm
                  have r5 := qa.n5 hm
                  have r6 := qa.n6 hm
                  have r7 := qa.n7 hm
                  have r8 := qa.n8 hm
                  have hgaw : ga < wr.heap.size := by omega
                  have hpb : (n.p == dirOf xp) = true := by simpa using hp
                  have K20 : ∀ W, Below wr.heap.size wr W → (W.cell? ⟨qb, 1, none⟩ = some (.slice (some ⟨ga, oa, none⟩) t.ns.length dn) ∧ W.cell? ⟨ga, oa + k * 9, none⟩ = some (.string ⟨n.p.toArray⟩) ∧ W.cell? ⟨ga, oa + k * 9 + 1, none⟩ = some (.string ⟨n.d.toArray⟩) ∧ W.cell? ⟨ga, oa + k * 9 + 2, none⟩ = some (.int .i64 n.c) ∧ W.cell? ⟨ga, oa + k * 9 + 3, none⟩ = some (.int .i64 n.m) ∧ W.cell? ⟨ga, oa + k * 9 + 4, none⟩ = some (.int .i64 z) ∧ W.cell? ⟨ga, oa + k * 9 + 5, none⟩ = some (.int .i64 n.v) ∧ W.cell? ⟨ga, oa + k * 9 + 6, none⟩ = some (.int .i64 (n.k + 2)) ∧ W.cell? ⟨ga, oa + k * 9 + 7, none⟩ = some (.int .i64 n.o) ∧ W.cell? ⟨ga, oa + k * 9 + 8, none⟩ = some (.int .i64 n.n) ∧ W.cell? ⟨w.heap.size, 1, none⟩ = some (.slice (some ⟨gt, ot, none⟩) t.ns.length nc) ∧ W.cell? ⟨gt, ot + k * 9, none⟩ = some (.string ⟨n.p.toArray⟩) ∧ W.cell? ⟨gt, ot + k * 9 + 1, none⟩ = some (.string ⟨n.d.toArray⟩) ∧ W.cell? ⟨gt, ot + k * 9 + 2, none⟩ = some (.int .i64 n.c) ∧ W.cell? ⟨gt, ot + k * 9 + 3, none⟩ = some (.int .i64 n.m) ∧ W.cell? ⟨gt, ot + k * 9 + 4, none⟩ = some (.int .i64 n.q) ∧ W.cell? ⟨gt, ot + k * 9 + 5, none⟩ = some (.int .i64 n.v) ∧ W.cell? ⟨gt, ot + k * 9 + 6, none⟩ = some (.int .i64 n.k) ∧ W.cell? ⟨gt, ot + k * 9 + 7, none⟩ = some (.int .i64 n.o) ∧ W.cell? ⟨gt, ot + k * 9 + 8, none⟩ = some (.int .i64 n.n)) := by
                    intro W hW
                    exact ⟨(hW.cell (p := ⟨qb, 1, none⟩) hq7).trans e1, (hW.cell (p := ⟨ga, oa + k * 9, none⟩) hgaw).trans r0, (hW.cell (p := ⟨ga, oa + k * 9 + 1, none⟩) hgaw).trans r1, (hW.cell (p := ⟨ga, oa + k * 9 + 2, none⟩) hgaw).trans r2, (hW.cell (p := ⟨ga, oa + k * 9 + 3, none⟩) hgaw).trans r3, (hW.cell (p := ⟨ga, oa + k * 9 + 4, none⟩) hgaw).trans r4, (hW.cell (p := ⟨ga, oa + k * 9 + 5, none⟩) hgaw).trans r5, (hW.cell (p := ⟨ga, oa + k * 9 + 6, none⟩) hgaw).trans r6, (hW.cell (p := ⟨ga, oa + k * 9 + 7, none⟩) hgaw).trans r7, (hW.cell (p := ⟨ga, oa + k * 9 + 8, none⟩) hgaw).trans r8, (hW.cell (p := ⟨w.heap.size, 1, none⟩) hq8).trans y1, (hW.cell (p := ⟨gt, ot + k * 9, none⟩) hgtw).trans d0, (hW.cell (p := ⟨gt, ot + k * 9 + 1, none⟩) hgtw).trans d1, (hW.cell (p := ⟨gt, ot + k * 9 + 2, none⟩) hgtw).trans d2, (hW.cell (p := ⟨gt, ot + k * 9 + 3, none⟩) hgtw).trans d3, (hW.cell (p := ⟨gt, ot + k * 9 + 4, none⟩) hgtw).trans d4, (hW.cell (p := ⟨gt, ot + k * 9 + 5, none⟩) hgtw).trans d5, (hW.cell (p := ⟨gt, ot + k * 9 + 6, none⟩) hgtw).trans d6, (hW.cell (p := ⟨gt, ot + k * 9 + 7, none⟩) hgtw).trans d7, (hW.cell (p := ⟨gt, ot + k * 9 + 8, none⟩) hgtw).trans d8⟩
                  have HK20 := hide K20
                  have hki0 : (0 : Int) ≤ (k : Int) := by omega
                  have hki1 : (k : Int) < (t.ns.length : Int) := by omega
                  clear qt qa hn hm hp K20 r0 r1 r2 r3 r4 r5 r6 r7 r8 d0 d1 d2 d3 d4 d5 d6 d7 d8
                  go_upto_region 24 with fail
                  go_cut [23, 24] from 161 to 209 (fun t23 t24 wx => ∃ q1 q2, t23 = .pointer (some ⟨q1, 0, none⟩) ∧ t24 = .pointer (some ⟨q2, 0, none⟩) ∧ Hid (Two wr wx q1 q2 ⟨n.p, n.d, n.c, n.m, z, n.v, n.k + 2, n.o, n.n⟩ n))
                  case first =>
                    clear HI HM HKA HKT X6 A6 B6
                    go_region_held3 (fun w' => w'.cell? ⟨qb, 1, none⟩ = some (.slice (some ⟨ga, oa, none⟩) t.ns.length dn) ∧ w'.cell? ⟨ga, oa + k * 9, none⟩ = some (.string ⟨n.p.toArray⟩) ∧ w'.cell? ⟨ga, oa + k * 9 + 1, none⟩ = some (.string ⟨n.d.toArray⟩) ∧ w'.cell? ⟨ga, oa + k * 9 + 2, none⟩ = some (.int .i64 n.c) ∧ w'.cell? ⟨ga, oa + k * 9 + 3, none⟩ = some (.int .i64 n.m) ∧ w'.cell? ⟨ga, oa + k * 9 + 4, none⟩ = some (.int .i64 z) ∧ w'.cell? ⟨ga, oa + k * 9 + 5, none⟩ = some (.int .i64 n.v) ∧ w'.cell? ⟨ga, oa + k * 9 + 6, none⟩ = some (.int .i64 (n.k + 2)) ∧ w'.cell? ⟨ga, oa + k * 9 + 7, none⟩ = some (.int .i64 n.o) ∧ w'.cell? ⟨ga, oa + k * 9 + 8, none⟩ = some (.int .i64 n.n) ∧ w'.cell? ⟨w.heap.size, 1, none⟩ = some (.slice (some ⟨gt, ot, none⟩) t.ns.length nc) ∧ w'.cell? ⟨gt, ot + k * 9, none⟩ = some (.string ⟨n.p.toArray⟩) ∧ w'.cell? ⟨gt, ot + k * 9 + 1, none⟩ = some (.string ⟨n.d.toArray⟩) ∧ w'.cell? ⟨gt, ot + k * 9 + 2, none⟩ = some (.int .i64 n.c) ∧ w'.cell? ⟨gt, ot + k * 9 + 3, none⟩ = some (.int .i64 n.m) ∧ w'.cell? ⟨gt, ot + k * 9 + 4, none⟩ = some (.int .i64 n.q) ∧ w'.cell? ⟨gt, ot + k * 9 + 5, none⟩ = some (.int .i64 n.v) ∧ w'.cell? ⟨gt, ot + k * 9 + 6, none⟩ = some (.int .i64 n.k) ∧ w'.cell? ⟨gt, ot + k * 9 + 7, none⟩ = some (.int .i64 n.o) ∧ w'.cell? ⟨gt, ot + k * 9 + 8, none⟩ = some (.int .i64 n.n)) (exact unhide HK20 _ (by first | with_reducible exact Below.refl _ _ | with_reducible exact (Below.refl _ _).drew | with_reducible exact allocB _ _ | with_reducible exact (allocB _ _).drew | with_reducible exact nnext (Below.refl _ _).drew (allocB _ _) | with_reducible exact nnext (allocB _ _) (allocB _ _) | with_reducible exact (nnext (allocB _ _) (allocB _ _)).drew | with_reducible exact nnext (nnext (Below.refl _ _).drew (allocB _ _)) (allocB _ _))) (fail)
                    all_goals go_wp2_with fail
                    all_goals go_meet
                    all_goals first
                      | with_reducible exact ⟨_, _, rfl, rfl, hide (two_a wr ⟨n.p, n.d, n.c, n.m, z, n.v, n.k + 2, n.o, n.n⟩ n).drew⟩
                      | with_reducible exact ⟨_, _, rfl, rfl, hide (two_b wr ⟨n.p, n.d, n.c, n.m, z, n.v, n.k + 2, n.o, n.n⟩ n).drew⟩
                      | exact ⟨wr.heap.size, wr.heap.size + 1, rfl, rfl, hide (two_a wr ⟨n.p, n.d, n.c, n.m, z, n.v, n.k + 2, n.o, n.n⟩ n).drew⟩
                      | exact ⟨wr.heap.size + 1, wr.heap.size, rfl, rfl, hide (two_b wr ⟨n.p, n.d, n.c, n.m, z, n.v, n.k + 2, n.o, n.n⟩ n).drew⟩
                  case rest =>
                    obtain ⟨q1, q2, rfl, rfl, hT⟩ := hcut
                    have s0 := (unhide hT).a.cellN 0 _ rfl
                    have s1 := (unhide hT).a.cellN 1 _ rfl
                    have s2 := (unhide hT).a.cellN 2 _ rfl
                    have s3 := (unhide hT).a.cellN 3 _ rfl
                    have s4 := (unhide hT).a.cellN 4 _ rfl
                    have s5 := (unhide hT).a.cellN 5 _ rfl
                    have s6 := (unhide hT).a.cellN 6 _ rfl
                    have s7 := (unhide hT).a.cellN 7 _ rfl
                    have s8 := (unhide hT).a.cellN 8 _ rfl
                    have u0 := (unhide hT).b.cellN 0 _ rfl
                    have u1 := (unhide hT).b.cellN 1 _ rfl
                    have u2 := (unhide hT).b.cellN 2 _ rfl
                    have u3 := (unhide hT).b.cellN 3 _ rfl
                    have u4 := (unhide hT).b.cellN 4 _ rfl
                    have u5 := (unhide hT).b.cellN 5 _ rfl
                    have u6 := (unhide hT).b.cellN 6 _ rfl
                    have u7 := (unhide hT).b.cellN 7 _ rfl
                    have u8 := (unhide hT).b.cellN 8 _ rfl
                    have fz4 := (unhide hT).a.frozenN 4
                    have fz6 := (unhide hT).a.frozenN 6
                    have hne := (unhide hT).ne
                    have hne' := Ne.symm hne
                    have B7 := hide (nnext (unhide hB) (unhide hT).bl)
                    have hqw := (unhide hT).b1
                    clear HK20 e0 e1 e2 y0 y1 y2 y3 y4 y5 y6 y7 y8 y9
                    go_wp2_with fail
                    go_region
                    go_wp2_with fail
                    go_roundg (t.ns.length - (k + 1))
                    case measure => omega
                    case rel => exact ⟨k + 1, rfl, by omega, Nat.le_refl _, hide ((((unhide B7).setCell (by show W6.heap.size ≤ q1; omega) _).setCell (by show W6.heap.size ≤ q1; omega) _).drew)⟩
                · skip
                  have hm := unhide HM k n hn hp
                  obtain ⟨ga, oa, rfl, hga, qa⟩ := unhide HKA wr (unhide hB) k _ hm
                  have r0 := qa.n0 hm
                  have r1 := qa.n1 hm
                  have r2 := qa.n2 hm
                  have r3 := qa.n3 hm
                  have r4 := qa.n4 hm
                  have r5 := qa.n5 hm
                  have r6 := qa.n6 hm
                  have r7 := qa.n7 hm
                  have r8 := qa.n8 hm
                  have hgaw : ga < wr.heap.size := by omega
                  have hpb : (n.p == dirOf xp) = false := by simpa using hp
                  have K20 : ∀ W, Below wr.heap.size wr W → (W.cell? ⟨qb, 1, none⟩ = some (.slice (some ⟨ga, oa, none⟩) t.ns.length dn) ∧ W.cell? ⟨ga, oa + k * 9, none⟩ = some (.string ⟨n.p.toArray⟩) ∧ W.cell? ⟨ga, oa + k * 9 + 1, none⟩ = some (.string ⟨n.d.toArray⟩) ∧ W.cell? ⟨ga, oa + k * 9 + 2, none⟩ = some (.int .i64 n.c) ∧ W.cell? ⟨ga, oa + k * 9 + 3, none⟩ = some (.int .i64 n.m) ∧ W.cell? ⟨ga, oa + k * 9 + 4, none⟩ = some (.int .i64 n.q) ∧ W.cell? ⟨ga, oa + k * 9 + 5, none⟩ = some (.int .i64 n.v) ∧ W.cell? ⟨ga, oa + k * 9 + 6, none⟩ = some (.int .i64 n.k) ∧ W.cell? ⟨ga, oa + k * 9 + 7, none⟩ = some (.int .i64 n.o) ∧ W.cell? ⟨ga, oa + k * 9 + 8, none⟩ = some (.int .i64 n.n) ∧ W.cell? ⟨w.heap.size, 1, none⟩ = some (.slice (some ⟨gt, ot, none⟩) t.ns.length nc) ∧ W.cell? ⟨gt, ot + k * 9, none⟩ = some (.string ⟨n.p.toArray⟩) ∧ W.cell? ⟨gt, ot + k * 9 + 1, none⟩ = some (.string ⟨n.d.toArray⟩) ∧ W.cell? ⟨gt, ot + k * 9 + 2, none⟩ = some (.int .i64 n.c) ∧ W.cell? ⟨gt, ot + k * 9 + 3, none⟩ = some (.int .i64 n.m) ∧ W.cell? ⟨gt, ot + k * 9 + 4, none⟩ = some (.int .i64 n.q) ∧ W.cell? ⟨gt, ot + k * 9 + 5, none⟩ = some (.int .i64 n.v) ∧ W.cell? ⟨gt, ot + k * 9 + 6, none⟩ = some (.int .i64 n.k) ∧ W.cell? ⟨gt, ot + k * 9 + 7, none⟩ = some (.int .i64 n.o) ∧ W.cell? ⟨gt, ot + k * 9 + 8, none⟩ = some (.int .i64 n.n)) := by
                    intro W hW
                    exact ⟨(hW.cell (p := ⟨qb, 1, none⟩) hq7).trans e1, (hW.cell (p := ⟨ga, oa + k * 9, none⟩) hgaw).trans r0, (hW.cell (p := ⟨ga, oa + k * 9 + 1, none⟩) hgaw).trans r1, (hW.cell (p := ⟨ga, oa + k * 9 + 2, none⟩) hgaw).trans r2, (hW.cell (p := ⟨ga, oa + k * 9 + 3, none⟩) hgaw).trans r3, (hW.cell (p := ⟨ga, oa + k * 9 + 4, none⟩) hgaw).trans r4, (hW.cell (p := ⟨ga, oa + k * 9 + 5, none⟩) hgaw).trans r5, (hW.cell (p := ⟨ga, oa + k * 9 + 6, none⟩) hgaw).trans r6, (hW.cell (p := ⟨ga, oa + k * 9 + 7, none⟩) hgaw).trans r7, (hW.cell (p := ⟨ga, oa + k * 9 + 8, none⟩) hgaw).trans r8, (hW.cell (p := ⟨w.heap.size, 1, none⟩) hq8).trans y1, (hW.cell (p := ⟨gt, ot + k * 9, none⟩) hgtw).trans d0, (hW.cell (p := ⟨gt, ot + k * 9 + 1, none⟩) hgtw).trans d1, (hW.cell (p := ⟨gt, ot + k * 9 + 2, none⟩) hgtw).trans d2, (hW.cell (p := ⟨gt, ot + k * 9 + 3, none⟩) hgtw).trans d3, (hW.cell (p := ⟨gt, ot + k * 9 + 4, none⟩) hgtw).trans d4, (hW.cell (p := ⟨gt, ot + k * 9 + 5, none⟩) hgtw).trans d5, (hW.cell (p := ⟨gt, ot + k * 9 + 6, none⟩) hgtw).trans d6, (hW.cell (p := ⟨gt, ot + k * 9 + 7, none⟩) hgtw).trans d7, (hW.cell (p := ⟨gt, ot + k * 9 + 8, none⟩) hgtw).trans d8⟩
                  have HK20 := hide K20
                  have hki0 : (0 : Int) ≤ (k : Int) := by omega
                  have hki1 : (k : Int) < (t.ns.length : Int) := by omega
                  clear qt qa hn hm hp K20 r0 r1 r2 r3 r4 r5 r6 r7 r8 d0 d1 d2 d3 d4 d5 d6 d7 d8
                  go_upto_region 24 with fail
                  go_cut [23, 24] from 161 to 209 (fun t23 t24 wx => ∃ q1 q2, t23 = .pointer (some ⟨q1, 0, none⟩) ∧ t24 = .pointer (some ⟨q2, 0, none⟩) ∧ Hid (Two wr wx q1 q2 n n))
                  case first =>
                    clear HI HM HKA HKT X6 A6 B6
                    go_region_held3 (fun w' => w'.cell? ⟨qb, 1, none⟩ = some (.slice (some ⟨ga, oa, none⟩) t.ns.length dn) ∧ w'.cell? ⟨ga, oa + k * 9, none⟩ = some (.string ⟨n.p.toArray⟩) ∧ w'.cell? ⟨ga, oa + k * 9 + 1, none⟩ = some (.string ⟨n.d.toArray⟩) ∧ w'.cell? ⟨ga, oa + k * 9 + 2, none⟩ = some (.int .i64 n.c) ∧ w'.cell? ⟨ga, oa + k * 9 + 3, none⟩ = some (.int .i64 n.m) ∧ w'.cell? ⟨ga, oa + k * 9 + 4, none⟩ = some (.int .i64 n.q) ∧ w'.cell? ⟨ga, oa + k * 9 + 5, none⟩ = some (.int .i64 n.v) ∧ w'.cell? ⟨ga, oa + k * 9 + 6, none⟩ = some (.int .i64 n.k) ∧ w'.cell? ⟨ga, oa + k * 9 + 7, none⟩ = some (.int .i64 n.o) ∧ w'.cell? ⟨ga, oa + k * 9 + 8, none⟩ = some (.int .i64 n.n) ∧ w'.cell? ⟨w.heap.size, 1, none⟩ = some (.slice (some ⟨gt, ot, none⟩) t.ns.length nc) ∧ w'.cell? ⟨gt, ot + k * 9, none⟩ = some (.string ⟨n.p.toArray⟩) ∧ w'.cell? ⟨gt, ot + k * 9 + 1, none⟩ = some (.string ⟨n.d.toArray⟩) ∧ w'.cell? ⟨gt, ot + k * 9 + 2, none⟩ = some (.int .i64 n.c) ∧ w'.cell? ⟨gt, ot + k * 9 + 3, none⟩ = some (.int .i64 n.m) ∧ w'.cell? ⟨gt, ot + k * 9 + 4, none⟩ = some (.int .i64 n.q) ∧ w'.cell? ⟨gt, ot + k * 9 + 5, none⟩ = some (.int .i64 n.v) ∧ w'.cell? ⟨gt, ot + k * 9 + 6, none⟩ = some (.int .i64 n.k) ∧ w'.cell? ⟨gt, ot + k * 9 + 7, none⟩ = some (.int .i64 n.o) ∧ w'.cell? ⟨gt, ot + k * 9 + 8, none⟩ = some (.int .i64 n.n)) (exact unhide HK20 _ (by first | with_reducible exact Below.refl _ _ | with_reducible exact (Below.refl _ _).drew | with_reducible exact allocB _ _ | with_reducible exact (allocB _ _).drew | with_reducible exact nnext (Below.refl _ _).drew (allocB _ _) | with_reducible exact nnext (allocB _ _) (allocB _ _) | with_reducible exact (nnext (allocB _ _) (allocB _ _)).drew | with_reducible exact nnext (nnext (Below.refl _ _).drew (allocB _ _)) (allocB _ _))) (fail)
                    all_goals go_wp2_with fail
                    all_goals go_meet
                    all_goals first
                      | with_reducible exact ⟨_, _, rfl, rfl, hide (two_a wr n n).drew⟩
                      | with_reducible exact ⟨_, _, rfl, rfl, hide (two_b wr n n).drew⟩
                      | exact ⟨wr.heap.size, wr.heap.size + 1, rfl, rfl, hide (two_a wr n n).drew⟩
                      | exact ⟨wr.heap.size + 1, wr.heap.size, rfl, rfl, hide (two_b wr n n).drew⟩
                  case rest =>
                    obtain ⟨q1, q2, rfl, rfl, hT⟩ := hcut
                    have s0 := (unhide hT).a.cellN 0 _ rfl
                    have s1 := (unhide hT).a.cellN 1 _ rfl
                    have s2 := (unhide hT).a.cellN 2 _ rfl
                    have s3 := (unhide hT).a.cellN 3 _ rfl
                    have s4 := (unhide hT).a.cellN 4 _ rfl
                    have s5 := (unhide hT).a.cellN 5 _ rfl
                    have s6 := (unhide hT).a.cellN 6 _ rfl
                    have s7 := (unhide hT).a.cellN 7 _ rfl
                    have s8 := (unhide hT).a.cellN 8 _ rfl
                    have u0 := (unhide hT).b.cellN 0 _ rfl
                    have u1 := (unhide hT).b.cellN 1 _ rfl
                    have u2 := (unhide hT).b.cellN 2 _ rfl
                    have u3 := (unhide hT).b.cellN 3 _ rfl
                    have u4 := (unhide hT).b.cellN 4 _ rfl
                    have u5 := (unhide hT).b.cellN 5 _ rfl
                    have u6 := (unhide hT).b.cellN 6 _ rfl
                    have u7 := (unhide hT).b.cellN 7 _ rfl
                    have u8 := (unhide hT).b.cellN 8 _ rfl
                    have fz4 := (unhide hT).a.frozenN 4
                    have fz6 := (unhide hT).a.frozenN 6
                    have hne := (unhide hT).ne
                    have hne' := Ne.symm hne
                    have B7 := hide (nnext (unhide hB) (unhide hT).bl)
                    have hqw := (unhide hT).b1
                    clear HK20 e0 e1 e2 y0 y1 y2 y3 y4 y5 y6 y7 y8 y9
                    go_wp2_with fail
                    go_roundg (t.ns.length - (k + 1))
                    case measure => omega
                    case rel => exact ⟨k + 1, rfl, by omega, Nat.le_refl _, B7⟩
              · obtain rfl : k = t.ns.length := by omega
                go_wp2_with fail
                go_ret
                exact ⟨rfl, nnext (unhide B6) (unhide hB)⟩
          · have hE2b : (E2 != 0) = true := by simpa using hE2
            have H1 := unhide HQ1 hE2
            clear hE2 HQ1 HQ2
            by_cases h1 : z ≤ xz
            · have h1b : decide (z ≤ xz) = true := decide_eq_true h1
              clear H1 h1
              go_wp2_with fail
              go_ret
              exact ⟨rfl, unhide B6⟩
            · have h1b : decide (z ≤ xz) = false := decide_eq_false h1
              have H2 : zGood z = false ∨ E2 = 6 := by
                rcases H1 with h | h
                · exact absurd h h1
                · exact h
              have CZ := fun W => zgood_any z W
              clear H1 h1
              cases hz : zGood z with
              | false =>
                rw [hz] at CZ
                clear hz H2
                go_wp2_with fail
                refine (CZ _).mono ?_
                rintro e w7 ⟨rfl, rfl⟩
                go_wp2_with fail
                go_ret
                exact ⟨rfl, unhide B6⟩
              | true =>
                have h6 : E2 = 6 := by
                  rcases H2 with h | h
                  · rw [hz] at h; cases h
                  · exact h
                rw [hz] at CZ
                subst h6
                clear hz H2
                go_wp2_with fail
                refine (CZ _).mono ?_
                rintro e w7 ⟨rfl, rfl⟩
                go_wp2_with fail
                go_ret
                exact ⟨rfl, unhide B6⟩
    · have hb : (E != 0) = true := by simpa using hE
      clear CA C1 HW1 KP KR KQ CA2
      go_wp2_with fail
      refine (grows_true _).mono ?_
      rintro e w2 ⟨rfl, hb2⟩
      have B2 := hide (nnext (unhide B1) hb2)
      clear hb2
      go_wp2_with fail
      go_ret
      exact ⟨rfl, unhide B2⟩

end Go.Proofs.YtkbnneoapcmfiaaDoor
