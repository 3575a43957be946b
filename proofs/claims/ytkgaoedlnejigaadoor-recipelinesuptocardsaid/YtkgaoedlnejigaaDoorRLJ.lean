/-
  aviaryref's GoodTree: the walk.
-/
import Derived.Test.YtkgaoedlnejigaaDoorRLG
import Derived.Test.YtkgaoedlnejigaaDoorRLI
import Derived.Deep.QuietTactic
import Derived.BigQuiet
import Derived.Deep.Cut
import Derived.Deep.CutRange
import Derived.Lib.QuietBelow
namespace Go.Proofs.YtkgaoedlnejigaaDoor
open Go.RowKit

/-- a tree's box -/
structure GT (w W : World) (z : Int) (vn vs : Value) : Prop where
  t : W.heap[w.heap.size]? = some (.cells #[.int .i64 z, vn, vs] 25 (0, 0))
  b : Below w.heap.size w W
theorem GT.new (w : World) (z : Int) (vn vs : Value) : GT w (w.alloc (.cells #[.int .i64 z, vn, vs] 25)) z vn vs := ⟨heap_alloc_new w _, allocB _ _⟩
theorem GT.lt {w W : World} {z : Int} {vn vs : Value} (h : GT w W z vn vs) : w.heap.size < W.heap.size := (Array.getElem?_eq_some_iff.1 h.t).1
theorem GT.next {w W V : World} {z : Int} {vn vs : Value} (h : GT w W z vn vs) (hb : Below W.heap.size W V) : GT w V z vn vs := ⟨(hb.block _ h.lt).trans h.t, nnext h.b hb⟩
theorem GT.cells {w W : World} {z : Int} {vn vs : Value} (h : GT w W z vn vs) : W.cell? ⟨w.heap.size, 0, none⟩ = some (.int .i64 z) ∧ W.cell? ⟨w.heap.size, 1, none⟩ = some vn ∧ W.cell? ⟨w.heap.size, 2, none⟩ = some vs := by
  have h1 := h.t
  refine ⟨?_, ?_, ?_⟩ <;> simp [World.cell?, h1]
/-- what is asked of a node beside its path and data -/
structure ChkP (t : Tr) (k : Nat) (n : Nd) : Prop where
  up : k = 0 ∨ ∃ u ∈ t.ns, u.p = dirOf n.p
  kids : n.n = kidsN t.ns n.p
  v0 : 0 ≤ n.v
  v1 : n.v ≤ 2147483647
  k0 : 0 ≤ n.k
  k1 : n.k ≤ 2147483647
  c0 : 0 ≤ n.c
  cm : n.c ≤ n.m
  cq : n.c ≤ n.q
  mz : n.m ≤ t.z
  qz : n.q ≤ t.z
  own : n.o = 0 ∨ n.o ∈ t.ss ∧ kidsN t.ns n.p = 0
structure PthP (ns : List Nd) (k : Nat) (n : Nd) : Prop where
  path : goodB n.p = true
  data : n.d.length ≤ 256
  rise : ∀ j m, k = j + 1 → ns[j]? = some m → bl m.p n.p = true
theorem gt_yes {t : Tr} {r : Nd} {rest : List Nd} (he : t.ns = r :: rest) (hr : r.p = [47]) (ho : r.o = 0) (hl : t.ns.length ≤ 400) (hz : zGood t.z = true) (hs : SAsc t.ss) (hp : ∀ k n, t.ns[k]? = some n → PthP t.ns k n) (hc : ∀ k n, t.ns[k]? = some n → ChkP t k n) : goodT t = true := by
  rw [goodT_true]
  have asc : NAsc t.ns := asc_of_rise (k := t.ns.length) (fun i hi a b ha hb => (hp (i + 1) b hb).rise i a rfl ha) (by omega)
  refine ⟨hz, hs, ⟨hl, ⟨r, rest, he, hr, ho⟩, asc, fun n hn => ?_⟩, fun n hn => ?_⟩
  · obtain ⟨k, hk⟩ := List.getElem?_of_mem hn
    have p := hp k n hk
    have c := hc k n hk
    refine ⟨p.data, p.path, fun hne => ?_, c.c0, c.cm, c.cq, c.mz, c.qz, c.v0, c.v1, c.k0, c.kids, ?_⟩
    · rcases c.up with h | h
      · subst h
        rw [he] at hk
        simp at hk
        subst hk
        exact absurd hr hne
      · exact h
    · rcases c.own with h | ⟨h1, h2⟩
      · exact .inl h
      · exact .inr ⟨h1, by rw [c.kids, h2]; rfl⟩
  · obtain ⟨k, hk⟩ := List.getElem?_of_mem hn
    exact (hc k n hk).k1
theorem gt_pth {t : Tr} {k : Nat} {n : Nd} (hn : t.ns[k]? = some n) (h : ¬ PthP t.ns k n) : false = goodT t := by
  refine (goodT_false.2 fun g => h ?_).symm
  have o := g.nod.ok n (List.mem_of_getElem? hn)
  refine ⟨o.path, o.data, fun j m e hm => ?_⟩
  subst e
  exact asc_rise g.nod.asc hm hn
theorem gt_chk {t : Tr} {k : Nat} {n : Nd} (hn : t.ns[k]? = some n) (h : ¬ ChkP t k n) : false = goodT t := by
  refine (goodT_false.2 fun g => h ?_).symm
  have hm := List.mem_of_getElem? hn
  have o := g.nod.ok n hm
  refine ⟨?_, o.kids, o.v0, o.v1, o.k0, g.cap n hm, o.c0, o.cm, o.cq, o.mz, o.qz, ?_⟩
  · by_cases hr : n.p = [47]
    · left
      obtain ⟨r, rest, e, hp, _⟩ := g.nod.root
      by_cases h0 : k = 0
      · exact h0
      · have : t.ns[0]? = some r := by rw [e]; rfl
        have h1 := nasc_uniq g.nod.asc hm (List.mem_of_getElem? this) (by rw [hr, hp])
        have := List.pairwise_iff_getElem.1 g.nod.asc 0 k (by rw [e]; simp) (List.getElem?_eq_some_iff.1 hn).1 (by omega)
        obtain ⟨hk, hk2⟩ := List.getElem?_eq_some_iff.1 hn
        rw [hk2] at this
        have h2 : t.ns[0]'(by rw [e]; simp) = r := by simp [e]
        rw [h2, h1] at this
        exact absurd this (by rw [bl_irrefl]; simp)
    · exact .inr (o.up hr)
  · rcases o.own with h | ⟨h1, h2⟩
    · exact .inl h
    · refine .inr ⟨h1, ?_⟩
      have := o.kids
      omega

/-- how far the parents are told -/
def dirsK (ns : List Nd) (k : Nat) : List (List UInt8) := (ns.take k).map (fun n => dirOf n.p) ++ List.replicate (ns.length - k) []
theorem dirs_at {ns : List Nd} {k : Nat} (h : k < ns.length) : (dirsK ns k)[k]? = some [] := by
  rw [dirsK, List.getElem?_append_right (by simp; omega)]
  simp only [List.length_map, List.length_take, Nat.min_eq_left (Nat.le_of_lt h), Nat.sub_self]
  rw [List.getElem?_replicate, if_pos (by omega)]
theorem dirs_put {ns : List Nd} {k : Nat} {n : Nd} {W : World} {D : Nat} (hn : ns[k]? = some n) (h : OwnR W D ns.length (dirsK ns k)) : OwnR (W.setCell ⟨D, k, none⟩ (.string ⟨(dirOf n.p).toArray⟩)) D ns.length (dirsK ns (k + 1)) := by
  have hlt := (List.getElem?_eq_some_iff.1 hn).1
  have hla : ((ns.take k).map (fun n => dirOf n.p)).length = k := by simp; omega
  have e1 : dirsK ns k = (ns.take k).map (fun n => dirOf n.p) ++ [] :: List.replicate (ns.length - (k + 1)) [] := by
    rw [dirsK, show ns.length - k = (ns.length - (k + 1)) + 1 by omega, List.replicate_succ]
  have e2 : dirsK ns (k + 1) = (ns.take k).map (fun n => dirOf n.p) ++ dirOf n.p :: List.replicate (ns.length - (k + 1)) [] := by
    rw [dirsK, List.take_add_one, hn]
    simp
  rw [e1] at h
  have := h.set (c := 0) (y := dirOf n.p) (v := .string ⟨(dirOf n.p).toArray⟩) (by decide) rfl
  rw [hla, ← e2] at this
  simpa [Lay.k] using this
theorem pth_succ {ns : List Nd} {k : Nat} {n : Nd} (h : ∀ i m, i < k → ns[i]? = some m → PthP ns i m) (hn : ns[k]? = some n) (hp : PthP ns k n) : ∀ i m, i < k + 1 → ns[i]? = some m → PthP ns i m := by
  intro i m hi hm
  by_cases e : i = k
  · subst e; rw [hn] at hm; cases hm; exact hp
  · exact h i m (by omega) hm
theorem dirs_cells : ∀ n : Nat, cellsL (List.replicate n ([] : List UInt8)) = List.replicate n (Value.string ⟨#[]⟩)
  | 0 => rfl
  | n + 1 => by rw [List.replicate_succ, List.replicate_succ, cellsL_cons, dirs_cells n]; rfl
theorem dirs_new {ns : List Nd} {W : World} {D : Nat} (h : W.ownsRow D 9 1 (.slice (some ⟨D, 0, none⟩) ns.length ns.length) ns.length (madeCells #[Value.string ⟨#[]⟩] ns.length).toList) : OwnR W D ns.length (dirsK ns 0) := by
  have e : (madeCells #[Value.string ⟨#[]⟩] ns.length).toList = cellsL (List.replicate ns.length ([] : List UInt8)) := by
    rw [dirs_cells]
    apply List.ext_getElem
    · simp [madeCells]
    · intro i h1 h2
      simp [madeCells, Nat.mod_one]
  rw [e] at h
  have h2 : OwnS W D (.slice (some ⟨D, 0, none⟩) ns.length ns.length) (List.replicate ns.length ([] : List UInt8)) := OwnS.of_row (by rw [List.length_replicate]; exact h)
  rcases h2 with ⟨h3, _⟩ | ⟨g, cap, h3, _, h4⟩
  · cases h3
  · simp only [Value.slice.injEq, Option.some.injEq, Addr.mk.injEq, and_true] at h3
    obtain ⟨rfl, _, rfl⟩ := h3
    simpa [dirsK] using h4

/-- what loop 3's round reads: the tree's box, the parents, the nodes, the node's box -/
structure Loo (w wr W : World) (b off cap D : Nat) (sa : Option Addr) (sc : Nat) (t : Tr) (n : Nd) : Prop where
  g : GT w W t.z (.slice (some ⟨b, off, none⟩) t.ns.length cap) (.slice sa t.ss.length sc)
  d : OwnR W D t.ns.length (dirsK t.ns t.ns.length)
  r : RowAt W b off (cellsL t.ns)
  n : OneR W wr.heap.size n
  bl : b < wr.heap.size
theorem Loo.new {w wr : World} {b off cap D : Nat} {sa : Option Addr} {sc : Nat} {t : Tr} {n : Nd} (hT : GT w wr t.z (.slice (some ⟨b, off, none⟩) t.ns.length cap) (.slice sa t.ss.length sc)) (hD : OwnR wr D t.ns.length (dirsK t.ns t.ns.length)) (hr : RowAt wr b off (cellsL t.ns)) (hb : b < wr.heap.size) : Loo w wr (wr.alloc (.cells #[.string ⟨n.p.toArray⟩, .string ⟨n.d.toArray⟩, .int .i64 n.c, .int .i64 n.m, .int .i64 n.q, .int .i64 n.v, .int .i64 n.k, .int .i64 n.o, .int .i64 n.n] 44)) b off cap D sa sc t n :=
  ⟨hT.next (allocB _ _), hD.next (allocB _ _), hr.kept (allocB _ _) hb, one_newN wr n, hb⟩
theorem Loo.next {w wr W V : World} {b off cap D : Nat} {sa : Option Addr} {sc : Nat} {t : Tr} {n : Nd} (h : Loo w wr W b off cap D sa sc t n) (hb : Below W.heap.size W V) : Loo w wr V b off cap D sa sc t n := by
  have h1 : wr.heap.size < W.heap.size := (Array.getElem?_eq_some_iff.1 (show W.heap[wr.heap.size]? = _ from h.n)).1
  exact ⟨h.g.next hb, h.d.next hb, h.r.kept hb (Nat.lt_trans h.bl h1), h.n.keptN hb, h.bl⟩

def upB (ns : List Nd) (k : Nat) (p : List UInt8) (j : Nat) : Bool := decide (k = 0) || (ns.take j).any fun m => decide (m.p = p)
theorem up_zero (ns : List Nd) (k : Nat) (p : List UInt8) : ((k : Int) == 0) = upB ns k p 0 := by
  rw [upB, List.take_zero, List.any_nil, Bool.or_false]
  by_cases h : k = 0
  · simp [h]
  · simp [h]
theorem up_take {ns : List Nd} {j : Nat} {m : Nd} (hm : ns[j]? = some m) (k : Nat) (p : List UInt8) : upB ns k p (j + 1) = (upB ns k p j || decide (m.p = p)) := by
  rw [upB, upB, List.take_add_one, hm, List.any_append, Bool.or_assoc]
  simp
theorem kids_take {ns : List Nd} {j : Nat} {m : Nd} (hm : ns[j]? = some m) (p : List UInt8) : kidsN (ns.take (j + 1)) p = kidsN (ns.take j) p + (if dirOf m.p = p then 1 else 0) := by
  rw [List.take_add_one, hm]
  exact kidsN_snoc (ns.take j) m p
theorem dirs_get {ns : List Nd} {j : Nat} {m : Nd} (hm : ns[j]? = some m) : (dirsK ns ns.length)[j]? = some (dirOf m.p) := by
  rw [dirsK, List.take_length, Nat.sub_self, List.replicate_zero, List.append_nil, List.getElem?_map, hm]
  rfl

set_option maxRecDepth 20000 in
set_option maxHeartbeats 8000000 in
theorem rgoodT_main (t : Tr) (vn vs : Value) (w : World) (hn : SeqV w vn t.ns) (hs : SeqV w vs t.ss) (hw : WfT t) (hzb : t.z ≤ 9223372036854775807) (hlong : ∀ n ∈ t.ns, n.p.length ≤ 1048576) (hls : t.ss.length ≤ 140737488355328)
    (r : Nd) (rest : List Nd) (he : t.ns = r :: rest) (hr : r.p = [47]) (ho : r.o = 0) (hl : t.ns.length ≤ 400) (hz : zGood t.z = true) :
    Calls Tryd.prog 5 #[.agg #[.int .i64 t.z, vn, vs]] w fun e w' => e = .returned (.bool (goodT t)) ∧ Below w.heap.size w w' := by
  have YES := hide (fun hs hp hc => (gt_yes he hr ho hl hz hs hp hc).symm)
  have NOS := hide (fun h : ¬ SAsc t.ss => (good_no (t := t) (fun g => h g.2.2)).symm)
  have NOP := hide (fun k n (hn : t.ns[k]? = some n) h => gt_pth hn h)
  have NOC := hide (fun k n (hn : t.ns[k]? = some n) h => gt_chk hn h)
  have CZ := fun W => rgood_any t.z hzb W
  rw [hz] at CZ
  have CP := hide (fun q W (hq : q.length ≤ 1048576) => refGood_any q W hq)
  have CS := hide (fun q W (hq : q.length ≤ 1048576) => rsplit_any q W hq)
  have CI := hide (fun (s : Int) W (hW : Below w.heap.size w W) => risopen_any t.z vn vs t.ss s W (hs.next hW) hls)
  have h0 : t.ns[0]? = some r := by rw [he]; rfl
  have h1 : 1 ≤ t.ns.length := by rw [he]; simp
  have KS : ∀ W, Below w.heap.size w W → ∀ (i : Nat) (x : Int), t.ss[i]? = some x → ∃ g o c, vs = .slice (some ⟨g, o, none⟩) t.ss.length c ∧ g < w.heap.size ∧ RowAt W g o (cellsL t.ss) := by
    intro W hW i x hx
    obtain ⟨b, off, c, e, hb, hr, _, _⟩ := seq_row hs (by intro h0; rw [h0] at hx; simp at hx)
    exact ⟨b, off, c, e, hb, hr.kept hW hb⟩
  have HKS := hide KS
  obtain ⟨b, off, cap, rfl, hb, hrow, _, _⟩ := seq_row hn (by rw [he]; simp)
  have HR := hide (fun W (hW : Below w.heap.size w W) => hrow.kept hW hb)
  obtain ⟨sa, sc, rfl⟩ := seq_slice hs
  have r0 := hrow.n0 h0
  have r7 := hrow.n7 h0
  rw [hr] at r0
  rw [ho] at r7
  simp only [Nat.zero_mul, Nat.add_zero] at r0 r7
  have HLG := hide hlong
  have HW := hide hw.ses
  obtain ⟨G, hG⟩ : ∃ G, goodT t = G := ⟨_, rfl⟩
  rw [hG] at YES NOS NOP NOC ⊢
  have T0 := hide (GT.new w t.z (.slice (some ⟨b, off, none⟩) t.ns.length cap) (.slice sa t.ss.length sc))
  clear hn hs hrow KS hlong hw he hr ho hz hG h0
  go_enter Tryd.func5, Tryd.ntmps5
  go_wp2_with fail
  refine (CZ _).mono ?_
  rintro e w1 ⟨rfl, rfl⟩
  go_wp2_with fail
  clear r0 r7 CZ
  go_loopg [50] t.ss.length (fun kx s50 wr => ∃ k : Nat, s50 = .int .i64 k ∧ k ≤ t.ss.length ∧ t.ss.length - k ≤ kx ∧ Hid (OkS t.ss k) ∧ Hid (GT w wr t.z (.slice (some ⟨b, off, none⟩) t.ns.length cap) (.slice sa t.ss.length sc)))
  case atStart => exact ⟨0, rfl, Nat.zero_le _, Nat.le_refl _, hide (fun i hi => absurd hi (Nat.not_lt_zero _)), T0⟩
  case round =>
    obtain ⟨k, rfl, hk, hg, hO, hT⟩ := hrel
    obtain ⟨c0, c1, c2⟩ := (unhide hT).cells
    by_cases hlt : k < t.ss.length
    · obtain ⟨x, hx⟩ : ∃ x, t.ss[k]? = some x := ⟨_, List.getElem?_eq_getElem hlt⟩
      obtain ⟨sb, so, sc', hes, hsb, qs⟩ := unhide HKS wr (unhide hT).b k x hx
      simp only [Value.slice.injEq] at hes
      obtain ⟨rfl, _, rfl⟩ := hes
      have d0 := qs.i0 hx
      have hkl : (k : Int) < (t.ss.length : Int) := by omega
      by_cases hx1 : 1 ≤ x
      · by_cases hx2 : x ≤ 2147483647
        · cases k with
          | zero =>
            have O1 := hide (oks_succ (unhide hO) hx hx1 hx2)
            rw [Nat.add_zero] at d0
            clear qs hx
            go_wp2_with fail
            go_roundg (t.ss.length - (0 + 1))
            case measure => omega
            case rel => exact ⟨0 + 1, rfl, by omega, Nat.le_refl _, O1, hT⟩
          | succ j =>
            obtain ⟨y, hy⟩ : ∃ y, t.ss[j]? = some y := ⟨_, List.getElem?_eq_getElem (by omega)⟩
            have d1 := qs.i0 hy
            have hwj : IntKind.i64.wrap ((j : Int) + 1 - 1) = j := by rw [IntKind.wrap_i64]; omega
            have hj0 : (0 : Int) ≤ (j : Int) := by omega
            have hjl : (j : Int) < (t.ss.length : Int) := by omega
            by_cases hxy : y < x
            · have O1 := hide (oks_succ (unhide hO) hx (by rw [leastOf_succ hy]; omega) hx2)
              clear qs hx hy
              go_wp2_with fail
              go_roundg (t.ss.length - (j + 1 + 1))
              case measure => omega
              case rel => exact ⟨j + 1 + 1, by simp, by omega, Nat.le_refl _, O1, hT⟩
            · have FG := hide (unhide NOS (fun h => by have := (sasc_oks h hx).1; rw [leastOf_succ hy] at this; omega))
              clear qs hx hy
              go_wp2_with fail
              go_ret
              exact ⟨nret_bool (unhide FG), (unhide hT).b⟩
        · have FG := hide (unhide NOS (fun h => by have := (sasc_oks h hx).2; omega))
          clear qs hx
          go_wp2_with fail
          go_ret
          exact ⟨nret_bool (unhide FG), (unhide hT).b⟩
      · have FG := hide (unhide NOS (fun h => by have := h.2 x (List.mem_of_getElem? hx); omega))
        clear qs hx
        go_wp2_with fail
        go_ret
        exact ⟨nret_bool (unhide FG), (unhide hT).b⟩
    · obtain rfl : k = t.ss.length := by omega
      have HSA := hide (oks_sasc (unhide hO))
      clear hO HKS NOS
      obtain ⟨i0, hi0, hz0, hz1, hz2⟩ := sinfo
      go_wp2_with (at_make; refine wpList_make_full _ rfl _ _ 28 rfl wr.heap.size 9 i0 _ 1 Tryd.underlying28 hi0 hz0 hz1 .i64 .i64 _ _ t.ns.length rfl rfl rfl rfl (by rw [hz2]; omega) (by simp only [maxLen]; omega) (Nat.le_refl _) ?_)
      intro w2 hown hgrow
      have T2 := hide ((unhide hT).next (grown_below hgrow))
      have hDlt := (unhide hT).lt
      obtain ⟨D, hDe⟩ : ∃ D, wr.heap.size = D := ⟨_, rfl⟩
      rw [hDe] at hown hDlt
      rw [hDe]
      have O2 := hide (dirs_new hown)
      obtain ⟨d0', d1', d2'⟩ := (unhide T2).cells
      clear hown hgrow c0 c1 c2 hT hDe hi0 hz0 hz1 hz2
      go_wp2_with fail
      go_loopg [83] t.ns.length (fun kx s83 wr => ∃ k : Nat, s83 = .int .i64 k ∧ k ≤ t.ns.length ∧ t.ns.length - k ≤ kx ∧ Hid (∀ i n, i < k → t.ns[i]? = some n → PthP t.ns i n) ∧ Hid (OwnR wr D t.ns.length (dirsK t.ns k)) ∧ Hid (GT w wr t.z (.slice (some ⟨b, off, none⟩) t.ns.length cap) (.slice sa t.ss.length sc)))
      case atStart => exact ⟨0, rfl, Nat.zero_le _, Nat.le_refl _, hide (fun i n hi => absurd hi (Nat.not_lt_zero _)), O2, T2⟩
      case round =>
        obtain ⟨k, rfl, hk, hg, hP, hD, hT⟩ := hrel
        obtain ⟨c0, c1, c2⟩ := (unhide hT).cells
        have hTl := (unhide hT).lt
        have hDl := (unhide hD).lt
        have hbr : b < wr.heap.size := Nat.lt_of_lt_of_le hb (unhide hT).b.size
        clear d0' d1' d2' O2 T2
        by_cases hlt : k < t.ns.length
        · obtain ⟨n, hn⟩ : ∃ n, t.ns[k]? = some n := ⟨_, List.getElem?_eq_getElem hlt⟩
          have q := unhide HR wr (unhide hT).b
          have hnl := unhide HLG n (List.mem_of_getElem? hn)
          have HN := hide hn
          have hkl : (k : Int) < (t.ns.length : Int) := by omega
          have hk0 : (0 : Int) ≤ (k : Int) := by omega
          have d0 := q.n0 hn
          have d1 := q.n1 hn
          have d2 := q.n2 hn
          have d3 := q.n3 hn
          have d4 := q.n4 hn
          have d5 := q.n5 hn
          have d6 := q.n6 hn
          have d7 := q.n7 hn
          have d8 := q.n8 hn
          cases hgp : goodB n.p with
          | false =>
            have FG := hide (unhide NOP k n hn (fun h => by have := h.path; rw [hgp] at this; cases this))
            have HK5 : Hid (∀ W, Below (wr.alloc (.cells #[.string ⟨n.p.toArray⟩, .string ⟨n.d.toArray⟩, .int .i64 n.c, .int .i64 n.m, .int .i64 n.q, .int .i64 n.v, .int .i64 n.k, .int .i64 n.o, .int .i64 n.n] 44)).heap.size (wr.alloc (.cells #[.string ⟨n.p.toArray⟩, .string ⟨n.d.toArray⟩, .int .i64 n.c, .int .i64 n.m, .int .i64 n.q, .int .i64 n.v, .int .i64 n.k, .int .i64 n.o, .int .i64 n.n] 44)) W → (W.cell? ⟨wr.heap.size, 0, none⟩ = some (.string ⟨n.p.toArray⟩) ∧ W.cell? ⟨wr.heap.size, 1, none⟩ = some (.string ⟨n.d.toArray⟩) ∧ W.cell? ⟨w.heap.size, 1, none⟩ = some (.slice (some ⟨b, off, none⟩) t.ns.length cap))) := by
              intro W hW
              exact ⟨(hW.cell (p := ⟨wr.heap.size, 0, none⟩) (by simp)).trans ((one_newN wr n).cellN 0 _ rfl), (hW.cell (p := ⟨wr.heap.size, 1, none⟩) (by simp)).trans ((one_newN wr n).cellN 1 _ rfl), (hW.cell (p := ⟨w.heap.size, 1, none⟩) (by simp; omega)).trans (Lib.cell?_alloc_some _ c1)⟩
            clear q hn
            have CPn := hide (fun W => unhide CP n.p W hnl)
            rw [hgp] at CPn
            go_wp2_with fail
            obtain ⟨u0, u1, u2⟩ := unhide HK5 _ (Below.refl _ _)
            obtain ⟨W0, hW0⟩ : ∃ W0, wr.alloc (.cells #[.string ⟨n.p.toArray⟩, .string ⟨n.d.toArray⟩, .int .i64 n.c, .int .i64 n.m, .int .i64 n.q, .int .i64 n.v, .int .i64 n.k, .int .i64 n.o, .int .i64 n.n] 44) = W0 := ⟨_, rfl⟩
            rw [hW0] at u0 u1 u2
            rw [hW0]
            have HW0 := hide hW0
            have c0' := fun d os => Calls.regrown_of (w := W0) (d := d) (os := os) (unhide CPn _)
            have f0 := fun d os => cell_regrown u0 d os
            have f1 := fun d os => cell_regrown u1 d os
            have f2 := fun d os => cell_regrown u2 d os
            clear u0 u1 u2 hW0
            refine wp_region_quiet_below (by kernel_rfl) (by kernel_rfl) ?_
            repeat (first | go_big_quiet_step (with_reducible exact c0' _ _) | quiet_step (with_reducible exact c0' _ _))
            refine wpQuiet_nil ?_
            intro _ hw'
            obtain ⟨⟨dq, osq⟩, hw''⟩ := hw'
            subst hw''
            have hb5 := below_regrown W0 dq osq
            obtain ⟨w5, hw5⟩ : ∃ w5, Go.Sort.grow (redrawn W0 dq) osq = w5 := ⟨_, rfl⟩
            rw [hw5] at hb5
            rw [hw5]
            rw [← unhide HW0] at hb5
            have B5 := hide hb5
            clear hb5 hw5 c0' f0 f1 f2 HW0
            have x0 := (unhide HK5 _ (unhide B5)).1
            have x1 := (unhide HK5 _ (unhide B5)).2.1
            go_wp2_with fail
            go_ret
            exact ⟨nret_bool (unhide FG), nnext (unhide hT).b (nnext (allocB _ _) (unhide B5))⟩
          | true =>
            have CPn := hide (fun W => unhide CP n.p W hnl)
            rw [hgp] at CPn
            by_cases hda : n.d.length ≤ 256
            · have hdb : decide ((n.d.length : Int) > 256) = false := decide_eq_false (by omega)
              by_cases hkz : k = 0
              · subst hkz
                have HPn : Hid (PthP t.ns 0 n) := ⟨hgp, hda, fun j m e => by omega⟩
                have HK5 : Hid (∀ W, Below (wr.alloc (.cells #[.string ⟨n.p.toArray⟩, .string ⟨n.d.toArray⟩, .int .i64 n.c, .int .i64 n.m, .int .i64 n.q, .int .i64 n.v, .int .i64 n.k, .int .i64 n.o, .int .i64 n.n] 44)).heap.size (wr.alloc (.cells #[.string ⟨n.p.toArray⟩, .string ⟨n.d.toArray⟩, .int .i64 n.c, .int .i64 n.m, .int .i64 n.q, .int .i64 n.v, .int .i64 n.k, .int .i64 n.o, .int .i64 n.n] 44)) W → (W.cell? ⟨wr.heap.size, 0, none⟩ = some (.string ⟨n.p.toArray⟩) ∧ W.cell? ⟨wr.heap.size, 1, none⟩ = some (.string ⟨n.d.toArray⟩) ∧ W.cell? ⟨w.heap.size, 1, none⟩ = some (.slice (some ⟨b, off, none⟩) t.ns.length cap))) := by
                  intro W hW
                  exact ⟨(hW.cell (p := ⟨wr.heap.size, 0, none⟩) (by simp)).trans ((one_newN wr n).cellN 0 _ rfl), (hW.cell (p := ⟨wr.heap.size, 1, none⟩) (by simp)).trans ((one_newN wr n).cellN 1 _ rfl), (hW.cell (p := ⟨w.heap.size, 1, none⟩) (by simp; omega)).trans (Lib.cell?_alloc_some _ c1)⟩
                clear q hn hgp
                simp only [Nat.zero_mul, Nat.add_zero] at d0 d1 d2 d3 d4 d5 d6 d7 d8
                go_wp2_with fail
                obtain ⟨u0, u1, u2⟩ := unhide HK5 _ (Below.refl _ _)
                obtain ⟨W0, hW0⟩ : ∃ W0, wr.alloc (.cells #[.string ⟨n.p.toArray⟩, .string ⟨n.d.toArray⟩, .int .i64 n.c, .int .i64 n.m, .int .i64 n.q, .int .i64 n.v, .int .i64 n.k, .int .i64 n.o, .int .i64 n.n] 44) = W0 := ⟨_, rfl⟩
                rw [hW0] at u0 u1 u2
                rw [hW0]
                have HW0 := hide hW0
                have c0' := fun d os => Calls.regrown_of (w := W0) (d := d) (os := os) (unhide CPn _)
                have f0 := fun d os => cell_regrown u0 d os
                have f1 := fun d os => cell_regrown u1 d os
                have f2 := fun d os => cell_regrown u2 d os
                clear u0 u1 u2 hW0
                refine wp_region_quiet_below (by kernel_rfl) (by kernel_rfl) ?_
                repeat (first | go_big_quiet_step (with_reducible exact c0' _ _) | quiet_step (with_reducible exact c0' _ _))
                refine wpQuiet_nil ?_
                intro _ hw'
                obtain ⟨⟨dq, osq⟩, hw''⟩ := hw'
                subst hw''
                have hb5 := below_regrown W0 dq osq
                obtain ⟨w5, hw5⟩ : ∃ w5, Go.Sort.grow (redrawn W0 dq) osq = w5 := ⟨_, rfl⟩
                rw [hw5] at hb5
                rw [hw5]
                rw [← unhide HW0] at hb5
                have B5 := hide hb5
                clear hb5 hw5 c0' f0 f1 f2 HW0
                have x0 := (unhide HK5 _ (unhide B5)).1
                have x1 := (unhide HK5 _ (unhide B5)).2.1
                go_wp2_with fail
                have P1 := hide (pth_succ (unhide hP) (unhide HN) (unhide HPn))
                have ow5 := ((unhide hD).next (allocB wr (.cells #[.string ⟨n.p.toArray⟩, .string ⟨n.d.toArray⟩, .int .i64 n.c, .int .i64 n.m, .int .i64 n.q, .int .i64 n.v, .int .i64 n.k, .int .i64 n.o, .int .i64 n.n] 44))).next (unhide B5)
                have T5 := hide ((unhide hT).next (nnext (allocB wr (.cells #[.string ⟨n.p.toArray⟩, .string ⟨n.d.toArray⟩, .int .i64 n.c, .int .i64 n.m, .int .i64 n.q, .int .i64 n.v, .int .i64 n.k, .int .i64 n.o, .int .i64 n.n] 44)) (unhide B5)))
                have hsz5 := (unhide B5).size
                clear HK5
                refine (unhide CS n.p _ hnl).mono ?_
                rintro e w6 ⟨rfl, hb6⟩
                have ow6 := hide (ow5.next hb6)
                have T6 := hide ((unhide T5).next hb6)
                have z0 := (unhide ow6).row.s0 (i := 0) (x := []) (dirs_at hlt)
                have zf := (unhide ow6).frozen (0)
                rw [Nat.zero_add] at z0
                have PUT := hide (dirs_put (unhide HN) (unhide ow6))
                have hDw : w.heap.size ≠ D := by omega
                have TP : Hid (GT w (w6.setCell ⟨D, 0, none⟩ (.string ⟨(dirOf n.p).toArray⟩)) t.z (.slice (some ⟨b, off, none⟩) t.ns.length cap) (.slice sa t.ss.length sc)) := ⟨(Below.heap_setCell _ _ _ _ hDw).trans (unhide T6).t, (unhide T6).b.setCell (by show w.heap.size ≤ D; omega) _⟩
                clear hb6 ow5 x0 T5
                go_wp2_with fail
                go_roundg (t.ns.length - (0 + 1))
                case measure => omega
                case rel => exact ⟨0 + 1, rfl, by omega, Nat.le_refl _, P1, PUT, TP⟩
              · obtain ⟨j, hkj⟩ : ∃ j, k = j + 1 := ⟨k - 1, by omega⟩
                obtain ⟨m, hm⟩ : ∃ m, t.ns[j]? = some m := ⟨_, List.getElem?_eq_getElem (by omega)⟩
                have e0 := q.n0 hm
                have hwj : IntKind.i64.wrap ((k : Int) - 1) = (j : Int) := by rw [IntKind.wrap_i64]; omega
                have hjz : ((k : Int) == 0) = false := by simp; omega
                have hkp : (0 : Int) < (k : Int) := by omega
                have HKJ := hide hkj
                have hkn : 0 < k := by omega
                have hknb : (k == 0) = false := by simp; omega
                have hknd : decide (0 < k) = true := decide_eq_true hkn
                have hkni : decide ((k : Int) > 0) = true := decide_eq_true (by omega)
                have hj0 : (0 : Int) ≤ (j : Int) := by omega
                have hjl : (j : Int) < (t.ns.length : Int) := by omega
                have hj1 : decide ((0 : Int) < (k : Int)) = true := decide_eq_true (by omega)
                have HK5 : Hid (∀ W, Below (wr.alloc (.cells #[.string ⟨n.p.toArray⟩, .string ⟨n.d.toArray⟩, .int .i64 n.c, .int .i64 n.m, .int .i64 n.q, .int .i64 n.v, .int .i64 n.k, .int .i64 n.o, .int .i64 n.n] 44)).heap.size (wr.alloc (.cells #[.string ⟨n.p.toArray⟩, .string ⟨n.d.toArray⟩, .int .i64 n.c, .int .i64 n.m, .int .i64 n.q, .int .i64 n.v, .int .i64 n.k, .int .i64 n.o, .int .i64 n.n] 44)) W → (W.cell? ⟨wr.heap.size, 0, none⟩ = some (.string ⟨n.p.toArray⟩) ∧ W.cell? ⟨wr.heap.size, 1, none⟩ = some (.string ⟨n.d.toArray⟩) ∧ W.cell? ⟨w.heap.size, 1, none⟩ = some (.slice (some ⟨b, off, none⟩) t.ns.length cap) ∧ W.cell? ⟨b, off + j * 9, none⟩ = some (.string ⟨m.p.toArray⟩))) := by
                  intro W hW
                  exact ⟨(hW.cell (p := ⟨wr.heap.size, 0, none⟩) (by simp)).trans ((one_newN wr n).cellN 0 _ rfl), (hW.cell (p := ⟨wr.heap.size, 1, none⟩) (by simp)).trans ((one_newN wr n).cellN 1 _ rfl), (hW.cell (p := ⟨w.heap.size, 1, none⟩) (by simp; omega)).trans (Lib.cell?_alloc_some _ c1), (hW.cell (p := ⟨b, off + j * 9, none⟩) (by simp; omega)).trans (Lib.cell?_alloc_some _ e0)⟩
                cases hbl : bl m.p n.p with
                | true =>
                  have HPn : Hid (PthP t.ns k n) := ⟨hgp, hda, fun j' m' e' hm' => by obtain rfl : j' = j := (by omega); rw [hm] at hm'; cases hm'; exact hbl⟩
                  have hbl1 : Op.bytesLess n.p m.p = false := bl_asymm hbl
                  have hbl2 : (n.p == m.p) = false := by simpa using (bl_ne hbl).symm
                  clear q hn hgp hm hbl hkj
                  go_wp2_with fail
                  obtain ⟨u0, u1, u2, u3⟩ := unhide HK5 _ (Below.refl _ _)
                  obtain ⟨W0, hW0⟩ : ∃ W0, wr.alloc (.cells #[.string ⟨n.p.toArray⟩, .string ⟨n.d.toArray⟩, .int .i64 n.c, .int .i64 n.m, .int .i64 n.q, .int .i64 n.v, .int .i64 n.k, .int .i64 n.o, .int .i64 n.n] 44) = W0 := ⟨_, rfl⟩
                  rw [hW0] at u0 u1 u2 u3
                  rw [hW0]
                  have HW0 := hide hW0
                  have c0' := fun d os => Calls.regrown_of (w := W0) (d := d) (os := os) (unhide CPn _)
                  have f0 := fun d os => cell_regrown u0 d os
                  have f1 := fun d os => cell_regrown u1 d os
                  have f2 := fun d os => cell_regrown u2 d os
                  have f3 := fun d os => cell_regrown u3 d os
                  clear u0 u1 u2 u3 hW0
                  refine wp_region_quiet_below (by kernel_rfl) (by kernel_rfl) ?_
                  repeat (first | go_big_quiet_step (with_reducible exact c0' _ _) | quiet_step (with_reducible exact c0' _ _))
                  refine wpQuiet_nil ?_
                  intro _ hw'
                  obtain ⟨⟨dq, osq⟩, hw''⟩ := hw'
                  subst hw''
                  have hb5 := below_regrown W0 dq osq
                  obtain ⟨w5, hw5⟩ : ∃ w5, Go.Sort.grow (redrawn W0 dq) osq = w5 := ⟨_, rfl⟩
                  rw [hw5] at hb5
                  rw [hw5]
                  rw [← unhide HW0] at hb5
                  have B5 := hide hb5
                  clear hb5 hw5 c0' f0 f1 f2 HW0
                  have x0 := (unhide HK5 _ (unhide B5)).1
                  have x1 := (unhide HK5 _ (unhide B5)).2.1
                  go_wp2_with fail
                  have P1 := hide (pth_succ (unhide hP) (unhide HN) (unhide HPn))
                  have ow5 := ((unhide hD).next (allocB wr (.cells #[.string ⟨n.p.toArray⟩, .string ⟨n.d.toArray⟩, .int .i64 n.c, .int .i64 n.m, .int .i64 n.q, .int .i64 n.v, .int .i64 n.k, .int .i64 n.o, .int .i64 n.n] 44))).next (unhide B5)
                  have T5 := hide ((unhide hT).next (nnext (allocB wr (.cells #[.string ⟨n.p.toArray⟩, .string ⟨n.d.toArray⟩, .int .i64 n.c, .int .i64 n.m, .int .i64 n.q, .int .i64 n.v, .int .i64 n.k, .int .i64 n.o, .int .i64 n.n] 44)) (unhide B5)))
                  have hsz5 := (unhide B5).size
                  clear HK5
                  refine (unhide CS n.p _ hnl).mono ?_
                  rintro e w6 ⟨rfl, hb6⟩
                  have ow6 := hide (ow5.next hb6)
                  have T6 := hide ((unhide T5).next hb6)
                  have z0 := (unhide ow6).row.s0 (i := k) (x := []) (dirs_at hlt)
                  have zf := (unhide ow6).frozen (k)
                  rw [Nat.zero_add] at z0
                  have PUT := hide (dirs_put (unhide HN) (unhide ow6))
                  have hDw : w.heap.size ≠ D := by omega
                  have TP : Hid (GT w (w6.setCell ⟨D, k, none⟩ (.string ⟨(dirOf n.p).toArray⟩)) t.z (.slice (some ⟨b, off, none⟩) t.ns.length cap) (.slice sa t.ss.length sc)) := ⟨(Below.heap_setCell _ _ _ _ hDw).trans (unhide T6).t, (unhide T6).b.setCell (by show w.heap.size ≤ D; omega) _⟩
                  clear hb6 ow5 x0 T5
                  go_wp2_with fail
                  go_roundg (t.ns.length - (k + 1))
                  case measure => omega
                  case rel => exact ⟨k + 1, rfl, by omega, Nat.le_refl _, P1, PUT, TP⟩
                | false =>
                  have FG := hide (unhide NOP k n hn (fun h => by have := h.rise j m hkj hm; rw [hbl] at this; cases this))
                  cases hb1 : bl n.p m.p with
                  | true =>
                    have hbl1 : Op.bytesLess n.p m.p = true := hb1
                    clear q hn hgp hm hbl hb1 hkj
                    go_wp2_with fail
                    obtain ⟨u0, u1, u2, u3⟩ := unhide HK5 _ (Below.refl _ _)
                    obtain ⟨W0, hW0⟩ : ∃ W0, wr.alloc (.cells #[.string ⟨n.p.toArray⟩, .string ⟨n.d.toArray⟩, .int .i64 n.c, .int .i64 n.m, .int .i64 n.q, .int .i64 n.v, .int .i64 n.k, .int .i64 n.o, .int .i64 n.n] 44) = W0 := ⟨_, rfl⟩
                    rw [hW0] at u0 u1 u2 u3
                    rw [hW0]
                    have HW0 := hide hW0
                    have c0' := fun d os => Calls.regrown_of (w := W0) (d := d) (os := os) (unhide CPn _)
                    have f0 := fun d os => cell_regrown u0 d os
                    have f1 := fun d os => cell_regrown u1 d os
                    have f2 := fun d os => cell_regrown u2 d os
                    have f3 := fun d os => cell_regrown u3 d os
                    clear u0 u1 u2 u3 hW0
                    refine wp_region_quiet_below (by kernel_rfl) (by kernel_rfl) ?_
                    repeat (first | go_big_quiet_step (with_reducible exact c0' _ _) | quiet_step (with_reducible exact c0' _ _))
                    refine wpQuiet_nil ?_
                    intro _ hw'
                    obtain ⟨⟨dq, osq⟩, hw''⟩ := hw'
                    subst hw''
                    have hb5 := below_regrown W0 dq osq
                    obtain ⟨w5, hw5⟩ : ∃ w5, Go.Sort.grow (redrawn W0 dq) osq = w5 := ⟨_, rfl⟩
                    rw [hw5] at hb5
                    rw [hw5]
                    rw [← unhide HW0] at hb5
                    have B5 := hide hb5
                    clear hb5 hw5 c0' f0 f1 f2 HW0
                    have x0 := (unhide HK5 _ (unhide B5)).1
                    have x1 := (unhide HK5 _ (unhide B5)).2.1
                    go_wp2_with fail
                    go_ret
                    exact ⟨nret_bool (unhide FG), nnext (unhide hT).b (nnext (allocB _ _) (unhide B5))⟩
                  | false =>
                    have hbl1 : Op.bytesLess n.p m.p = false := hb1
                    have hbl2 : (n.p == m.p) = true := by simpa using bl_total _ _ hb1 hbl
                    clear q hn hgp hm hbl hb1 hkj
                    go_wp2_with fail
                    obtain ⟨u0, u1, u2, u3⟩ := unhide HK5 _ (Below.refl _ _)
                    obtain ⟨W0, hW0⟩ : ∃ W0, wr.alloc (.cells #[.string ⟨n.p.toArray⟩, .string ⟨n.d.toArray⟩, .int .i64 n.c, .int .i64 n.m, .int .i64 n.q, .int .i64 n.v, .int .i64 n.k, .int .i64 n.o, .int .i64 n.n] 44) = W0 := ⟨_, rfl⟩
                    rw [hW0] at u0 u1 u2 u3
                    rw [hW0]
                    have HW0 := hide hW0
                    have c0' := fun d os => Calls.regrown_of (w := W0) (d := d) (os := os) (unhide CPn _)
                    have f0 := fun d os => cell_regrown u0 d os
                    have f1 := fun d os => cell_regrown u1 d os
                    have f2 := fun d os => cell_regrown u2 d os
                    have f3 := fun d os => cell_regrown u3 d os
                    clear u0 u1 u2 u3 hW0
                    refine wp_region_quiet_below (by kernel_rfl) (by kernel_rfl) ?_
                    repeat (first | go_big_quiet_step (with_reducible exact c0' _ _) | quiet_step (with_reducible exact c0' _ _))
                    refine wpQuiet_nil ?_
                    intro _ hw'
                    obtain ⟨⟨dq, osq⟩, hw''⟩ := hw'
                    subst hw''
                    have hb5 := below_regrown W0 dq osq
                    obtain ⟨w5, hw5⟩ : ∃ w5, Go.Sort.grow (redrawn W0 dq) osq = w5 := ⟨_, rfl⟩
                    rw [hw5] at hb5
                    rw [hw5]
                    rw [← unhide HW0] at hb5
                    have B5 := hide hb5
                    clear hb5 hw5 c0' f0 f1 f2 HW0
                    have x0 := (unhide HK5 _ (unhide B5)).1
                    have x1 := (unhide HK5 _ (unhide B5)).2.1
                    go_wp2_with fail
                    go_ret
                    exact ⟨nret_bool (unhide FG), nnext (unhide hT).b (nnext (allocB _ _) (unhide B5))⟩
            · have FG := hide (unhide NOP k n hn (fun h => hda h.data))
              have hdl : 256 < n.d.length := by omega
              have hdi : (256 : Int) < (n.d.length : Int) := by omega
              clear hda
              have HK5 : Hid (∀ W, Below (wr.alloc (.cells #[.string ⟨n.p.toArray⟩, .string ⟨n.d.toArray⟩, .int .i64 n.c, .int .i64 n.m, .int .i64 n.q, .int .i64 n.v, .int .i64 n.k, .int .i64 n.o, .int .i64 n.n] 44)).heap.size (wr.alloc (.cells #[.string ⟨n.p.toArray⟩, .string ⟨n.d.toArray⟩, .int .i64 n.c, .int .i64 n.m, .int .i64 n.q, .int .i64 n.v, .int .i64 n.k, .int .i64 n.o, .int .i64 n.n] 44)) W → (W.cell? ⟨wr.heap.size, 0, none⟩ = some (.string ⟨n.p.toArray⟩) ∧ W.cell? ⟨wr.heap.size, 1, none⟩ = some (.string ⟨n.d.toArray⟩) ∧ W.cell? ⟨w.heap.size, 1, none⟩ = some (.slice (some ⟨b, off, none⟩) t.ns.length cap))) := by
                intro W hW
                exact ⟨(hW.cell (p := ⟨wr.heap.size, 0, none⟩) (by simp)).trans ((one_newN wr n).cellN 0 _ rfl), (hW.cell (p := ⟨wr.heap.size, 1, none⟩) (by simp)).trans ((one_newN wr n).cellN 1 _ rfl), (hW.cell (p := ⟨w.heap.size, 1, none⟩) (by simp; omega)).trans (Lib.cell?_alloc_some _ c1)⟩
              clear q hn hgp
              go_wp2_with fail
              obtain ⟨u0, u1, u2⟩ := unhide HK5 _ (Below.refl _ _)
              obtain ⟨W0, hW0⟩ : ∃ W0, wr.alloc (.cells #[.string ⟨n.p.toArray⟩, .string ⟨n.d.toArray⟩, .int .i64 n.c, .int .i64 n.m, .int .i64 n.q, .int .i64 n.v, .int .i64 n.k, .int .i64 n.o, .int .i64 n.n] 44) = W0 := ⟨_, rfl⟩
              rw [hW0] at u0 u1 u2
              rw [hW0]
              have HW0 := hide hW0
              have c0' := fun d os => Calls.regrown_of (w := W0) (d := d) (os := os) (unhide CPn _)
              have f0 := fun d os => cell_regrown u0 d os
              have f1 := fun d os => cell_regrown u1 d os
              have f2 := fun d os => cell_regrown u2 d os
              clear u0 u1 u2 hW0
              refine wp_region_quiet_below (by kernel_rfl) (by kernel_rfl) ?_
              repeat (first | go_big_quiet_step (with_reducible exact c0' _ _) | quiet_step (with_reducible exact c0' _ _))
              refine wpQuiet_nil ?_
              intro _ hw'
              obtain ⟨⟨dq, osq⟩, hw''⟩ := hw'
              subst hw''
              have hb5 := below_regrown W0 dq osq
              obtain ⟨w5, hw5⟩ : ∃ w5, Go.Sort.grow (redrawn W0 dq) osq = w5 := ⟨_, rfl⟩
              rw [hw5] at hb5
              rw [hw5]
              rw [← unhide HW0] at hb5
              have B5 := hide hb5
              clear hb5 hw5 c0' f0 f1 f2 HW0
              have x0 := (unhide HK5 _ (unhide B5)).1
              have x1 := (unhide HK5 _ (unhide B5)).2.1
              go_wp2_with fail
              go_ret
              exact ⟨nret_bool (unhide FG), nnext (unhide hT).b (nnext (allocB _ _) (unhide B5))⟩
        · obtain rfl : k = t.ns.length := by omega
          have HPA := hide (fun i n (hn : t.ns[i]? = some n) => unhide hP i n (List.getElem?_eq_some_iff.1 hn).1 hn)
          clear hP hg hk NOP CP CS HLG
          go_wp2_with fail
          go_loopg [128] t.ns.length (fun kx s128 wr => ∃ k : Nat, s128 = .int .i64 k ∧ k ≤ t.ns.length ∧ t.ns.length - k ≤ kx ∧ Hid (∀ i n, i < k → t.ns[i]? = some n → ChkP t i n) ∧ Hid (OwnR wr D t.ns.length (dirsK t.ns t.ns.length)) ∧ Hid (GT w wr t.z (.slice (some ⟨b, off, none⟩) t.ns.length cap) (.slice sa t.ss.length sc)))
          case atStart => exact ⟨0, rfl, Nat.zero_le _, Nat.le_refl _, hide (fun i n hi => absurd hi (Nat.not_lt_zero _)), hD, hT⟩
          case round =>
            obtain ⟨k, rfl, hk, hg, hC, hD, hT⟩ := hrel
            obtain ⟨c0, c1, c2⟩ := (unhide hT).cells
            have hTl := (unhide hT).lt
            have hDl := (unhide hD).lt
            have hbr : b < wr.heap.size := Nat.lt_of_lt_of_le hb (unhide hT).b.size
            by_cases hlt : k < t.ns.length
            · obtain ⟨n, hn⟩ : ∃ n, t.ns[k]? = some n := ⟨_, List.getElem?_eq_getElem hlt⟩
              have q := unhide HR wr (unhide hT).b
              have d0 := q.n0 hn
              have d1 := q.n1 hn
              have d2 := q.n2 hn
              have d3 := q.n3 hn
              have d4 := q.n4 hn
              have d5 := q.n5 hn
              have d6 := q.n6 hn
              have d7 := q.n7 hn
              have d8 := q.n8 hn
              have HN := hide hn
              have hkl : (k : Int) < (t.ns.length : Int) := by omega
              have hk0 : (0 : Int) ≤ (k : Int) := by omega
              clear q hn
              have X0 : Hid (Loo w wr (wr.alloc (.cells #[.string ⟨n.p.toArray⟩, .string ⟨n.d.toArray⟩, .int .i64 n.c, .int .i64 n.m, .int .i64 n.q, .int .i64 n.v, .int .i64 n.k, .int .i64 n.o, .int .i64 n.n] 44)) b off cap D sa sc t n) := hide (Loo.new (unhide hT) (unhide hD) (unhide HR wr (unhide hT).b) hbr)
              go_wp2_with fail
              obtain ⟨W0, hW0⟩ : ∃ W0, wr.alloc (.cells #[.string ⟨n.p.toArray⟩, .string ⟨n.d.toArray⟩, .int .i64 n.c, .int .i64 n.m, .int .i64 n.q, .int .i64 n.v, .int .i64 n.k, .int .i64 n.o, .int .i64 n.n] 44) = W0 := ⟨_, rfl⟩
              rw [hW0] at X0
              rw [hW0]
              obtain ⟨Q, hQ⟩ : ∃ Q, wr.heap.size = Q := ⟨_, rfl⟩
              have X0' := hide (unhide X0)
              rw [hQ]
              have HQ := hide hQ
              have HW0 := hide hW0
              clear hQ hW0 d0 d1 d2 d3 d4 d5 d6 d7 d8 c0 c1 c2
              have C0 := (unhide X0).g.cells
              obtain ⟨g0, g1, g2⟩ := C0
              go_wp2_with fail
              go_loopg [10, 11, 138] t.ns.length (fun kx s10 s11 s138 wr => ∃ j : Nat, s138 = .int .i64 j ∧ s10 = .int .i64 (kidsN (t.ns.take j) n.p : Nat) ∧ s11 = .bool (upB t.ns k (dirOf n.p) j) ∧ j ≤ t.ns.length ∧ t.ns.length - j ≤ kx ∧ Hid (Below W0.heap.size W0 wr))
              case atStart => exact ⟨0, rfl, rfl, congrArg Value.bool (up_zero t.ns k (dirOf n.p)), Nat.zero_le _, Nat.le_refl _, hide (Below.refl _ _)⟩
              case round =>
                obtain ⟨j, rfl, rfl, rfl, hj, hgj, hB4⟩ := hrel
                have X1 := (unhide X0).next (unhide hB4)
                obtain ⟨c0, c1, c2⟩ := X1.g.cells
                by_cases hlj : j < t.ns.length
                · obtain ⟨m, hm⟩ : ∃ m, t.ns[j]? = some m := ⟨_, List.getElem?_eq_getElem hlj⟩
                  have e0 := X1.r.n0 hm
                  have z0 := X1.d.row.s0 (dirs_get hm)
                  have zk := X1.d.row.s0 (dirs_get (unhide HN))
                  rw [Nat.zero_add] at z0 zk
                  have x0 := X1.n.cellN 0 _ rfl
                  rw [unhide HQ] at x0
                  have hjl : (j : Int) < (t.ns.length : Int) := by omega
                  have hj0 : (0 : Int) ≤ (j : Int) := by omega
                  have hkc : kidsN (t.ns.take j) n.p ≤ 400 := by
                    have h1 : kidsN (t.ns.take j) n.p ≤ (t.ns.take j).length := List.countP_le_length
                    rw [List.length_take] at h1
                    omega
                  obtain ⟨c, hcc⟩ : ∃ c, kidsN (t.ns.take j) n.p = c := ⟨_, rfl⟩
                  rw [hcc] at hkc
                  rw [hcc]
                  have HCC := hide hcc
                  clear hcc X1
                  by_cases hde : dirOf m.p = n.p
                  · cases hU : upB t.ns k (dirOf n.p) j with
                    | true =>
                      have hdb : (dirOf m.p == n.p) = true := by simpa using hde
                      have HK := hide (kids_take hm n.p)
                      have HU := hide (up_take hm k (dirOf n.p))
                      rw [hU] at HU
                      have HDE := hide hde
                      clear hm hde hU
                      go_wp2_with fail
                      go_region
                      go_wp2_with fail
                      go_region
                      go_wp2_with fail
                      go_roundg (t.ns.length - (j + 1))
                      case measure => omega
                      case rel =>
                        exact ⟨j + 1, rfl, (by rw [unhide HK, if_pos (unhide HDE), unhide HCC]; rfl), (by rw [unhide HU]; rfl), by omega, Nat.le_refl _, hide ((unhide hB4).drew.drew)⟩
                    | false =>
                      by_cases hpe : m.p = dirOf n.p
                      · skip
                        have hdb : (dirOf m.p == n.p) = true := by simpa using hde
                        have HK := hide (kids_take hm n.p)
                        have HU := hide (up_take hm k (dirOf n.p))
                        rw [hU] at HU
                        have hpb : (m.p == dirOf n.p) = true := by simpa using hpe
                        have HDE := hide hde
                        have HPE := hide hpe
                        clear hm hde hU hpe
                        go_wp2_with fail
                        go_region
                        go_wp2_with fail
                        go_region
                        go_wp2_with fail
                        go_roundg (t.ns.length - (j + 1))
                        case measure => omega
                        case rel =>
                          exact ⟨j + 1, rfl, (by rw [unhide HK, if_pos (unhide HDE), unhide HCC]; rfl), (by rw [unhide HU, decide_eq_true (unhide HPE)]; rfl), by omega, Nat.le_refl _, hide ((unhide hB4).drew.drew)⟩
                      · skip
                        have hdb : (dirOf m.p == n.p) = true := by simpa using hde
                        have HK := hide (kids_take hm n.p)
                        have HU := hide (up_take hm k (dirOf n.p))
                        rw [hU] at HU
                        have hpb : (m.p == dirOf n.p) = false := by simpa using hpe
                        have HDE := hide hde
                        have HPE := hide hpe
                        clear hm hde hU hpe
                        go_wp2_with fail
                        go_region
                        go_wp2_with fail
                        go_region
                        go_wp2_with fail
                        go_roundg (t.ns.length - (j + 1))
                        case measure => omega
                        case rel =>
                          exact ⟨j + 1, rfl, (by rw [unhide HK, if_pos (unhide HDE), unhide HCC]; rfl), (by rw [unhide HU, decide_eq_false (unhide HPE)]; rfl), by omega, Nat.le_refl _, hide ((unhide hB4).drew.drew)⟩
                  · cases hU : upB t.ns k (dirOf n.p) j with
                    | true =>
                      have hdb : (dirOf m.p == n.p) = false := by simpa using hde
                      have HK := hide (kids_take hm n.p)
                      have HU := hide (up_take hm k (dirOf n.p))
                      rw [hU] at HU
                      have HDE := hide hde
                      clear hm hde hU
                      go_wp2_with fail
                      go_region
                      go_wp2_with fail
                      go_region
                      go_wp2_with fail
                      go_roundg (t.ns.length - (j + 1))
                      case measure => omega
                      case rel =>
                        exact ⟨j + 1, rfl, (by rw [unhide HK, if_neg (unhide HDE), unhide HCC]; rfl), (by rw [unhide HU]; rfl), by omega, Nat.le_refl _, hide ((unhide hB4).drew.drew)⟩
                    | false =>
                      by_cases hpe : m.p = dirOf n.p
                      · skip
                        have hdb : (dirOf m.p == n.p) = false := by simpa using hde
                        have HK := hide (kids_take hm n.p)
                        have HU := hide (up_take hm k (dirOf n.p))
                        rw [hU] at HU
                        have hpb : (m.p == dirOf n.p) = true := by simpa using hpe
                        have HDE := hide hde
                        have HPE := hide hpe
                        clear hm hde hU hpe
                        go_wp2_with fail
                        go_region
                        go_wp2_with fail
                        go_region
                        go_wp2_with fail
                        go_roundg (t.ns.length - (j + 1))
                        case measure => omega
                        case rel =>
                          exact ⟨j + 1, rfl, (by rw [unhide HK, if_neg (unhide HDE), unhide HCC]; rfl), (by rw [unhide HU, decide_eq_true (unhide HPE)]; rfl), by omega, Nat.le_refl _, hide ((unhide hB4).drew.drew)⟩
                      · skip
                        have hdb : (dirOf m.p == n.p) = false := by simpa using hde
                        have HK := hide (kids_take hm n.p)
                        have HU := hide (up_take hm k (dirOf n.p))
                        rw [hU] at HU
                        have hpb : (m.p == dirOf n.p) = false := by simpa using hpe
                        have HDE := hide hde
                        have HPE := hide hpe
                        clear hm hde hU hpe
                        go_wp2_with fail
                        go_region
                        go_wp2_with fail
                        go_region
                        go_wp2_with fail
                        go_roundg (t.ns.length - (j + 1))
                        case measure => omega
                        case rel =>
                          exact ⟨j + 1, rfl, (by rw [unhide HK, if_neg (unhide HDE), unhide HCC]; rfl), (by rw [unhide HU, decide_eq_false (unhide HPE)]; rfl), by omega, Nat.le_refl _, hide ((unhide hB4).drew.drew)⟩
                · obtain rfl : j = t.ns.length := by omega
                  rw [List.take_length]
                  have x2 := X1.n.cellN 2 _ rfl
                  have x3 := X1.n.cellN 3 _ rfl
                  have x4 := X1.n.cellN 4 _ rfl
                  have x5 := X1.n.cellN 5 _ rfl
                  have x6 := X1.n.cellN 6 _ rfl
                  have x7 := X1.n.cellN 7 _ rfl
                  have x8 := X1.n.cellN 8 _ rfl
                  rw [unhide HQ] at x2 x3 x4 x5 x6 x7 x8
                  have F := hide (fun h : ¬ ChkP t k n => unhide NOC k n (unhide HN) h)
                  have BW := hide X1.g.b
                  have hwl := X1.g.lt
                  have HX1 := hide X1
                  have HKK := hide (fun h : ChkP t k n => h.kids)
                  have HKO := hide (fun h : ChkP t k n => h.own)
                  have MK := hide (fun (a : k = 0 ∨ ∃ u ∈ t.ns, u.p = dirOf n.p) (b : n.n = kidsN t.ns n.p) c d e f g h i j l (m : n.o = 0 ∨ n.o ∈ t.ss ∧ kidsN t.ns n.p = 0) => (⟨a, b, c, d, e, f, g, h, i, j, l, m⟩ : ChkP t k n))
                  have hcl : kidsN t.ns n.p ≤ 400 := Nat.le_trans List.countP_le_length hl
                  obtain ⟨c, hcc⟩ : ∃ c, kidsN t.ns n.p = c := ⟨_, rfl⟩
                  rw [hcc] at hcl HKK HKO MK
                  rw [hcc]
                  clear hcc X1 hj hgj hlj
                  cases hU : upB t.ns k (dirOf n.p) t.ns.length with
                  | false =>
                    have FG := hide (unhide F (fun h => by
                      have h2 : upB t.ns k (dirOf n.p) t.ns.length = true := by
                        rw [upB, List.take_length, Bool.or_eq_true]
                        rcases h.up with e | ⟨u, hu, e⟩
                        · exact .inl (decide_eq_true e)
                        · exact .inr (List.any_eq_true.2 ⟨u, hu, by simpa using e⟩)
                      rw [h2] at hU
                      cases hU))
                    clear hU
                    go_wp2_with fail
                    go_ret
                    exact ⟨nret_bool (unhide FG), nnext (unhide BW) (allocB _ _)⟩
                  | true =>
                    have HUP : Hid (k = 0 ∨ ∃ u ∈ t.ns, u.p = dirOf n.p) := by
                      rw [upB, List.take_length, Bool.or_eq_true] at hU
                      rcases hU with h | h
                      · exact .inl (by simpa using h)
                      · obtain ⟨u, hu, e⟩ := List.any_eq_true.1 h
                        exact .inr ⟨u, hu, by simpa using e⟩
                    clear hU
                    by_cases q0 : n.n = (c : Int)
                    · have g0b : (n.n == (c : Int)) = true := by simpa using q0
                      have g0n : (n.n != (c : Int)) = false := by simpa using q0
                      have Q0 := hide q0
                      clear q0
                      by_cases q1 : 0 ≤ n.v
                      · have g1n : ¬ (n.v < 0) := by omega
                        have g1d : decide (n.v < 0) = false := decide_eq_false g1n
                        have Q1 := hide q1
                        clear q1
                        by_cases q2 : n.v ≤ 2147483647
                        · have g2n : ¬ ((2147483648 : Int) ≤ n.v) := by omega
                          have g2d : decide ((2147483648 : Int) ≤ n.v) = false := decide_eq_false g2n
                          have Q2 := hide q2
                          clear q2
                          by_cases q3 : 0 ≤ n.k
                          · have g3n : ¬ (n.k < 0) := by omega
                            have g3d : decide (n.k < 0) = false := decide_eq_false g3n
                            have Q3 := hide q3
                            clear q3
                            by_cases q4 : n.k ≤ 2147483647
                            · have g4n : ¬ ((2147483648 : Int) ≤ n.k) := by omega
                              have g4d : decide ((2147483648 : Int) ≤ n.k) = false := decide_eq_false g4n
                              have Q4 := hide q4
                              clear q4
                              by_cases q5 : 0 ≤ n.c
                              · have g5n : ¬ (n.c < 0) := by omega
                                have g5d : decide (n.c < 0) = false := decide_eq_false g5n
                                have Q5 := hide q5
                                clear q5
                                by_cases q6 : n.c ≤ n.m
                                · have g6n : ¬ (n.m < n.c) := by omega
                                  have g6d : decide (n.m < n.c) = false := decide_eq_false g6n
                                  have Q6 := hide q6
                                  clear q6
                                  by_cases q7 : n.c ≤ n.q
                                  · have g7n : ¬ (n.q < n.c) := by omega
                                    have g7d : decide (n.q < n.c) = false := decide_eq_false g7n
                                    have Q7 := hide q7
                                    clear q7
                                    by_cases q8 : n.m ≤ t.z
                                    · have g8n : ¬ (t.z < n.m) := by omega
                                      have g8d : decide (t.z < n.m) = false := decide_eq_false g8n
                                      have Q8 := hide q8
                                      clear q8
                                      by_cases q9 : n.q ≤ t.z
                                      · have g9n : ¬ (t.z < n.q) := by omega
                                        have g9d : decide (t.z < n.q) = false := decide_eq_false g9n
                                        have Q9 := hide q9
                                        clear q9

                                        by_cases ho0 : n.o = 0
                                        · have hob : (n.o == 0) = true := by simpa using ho0
                                          have hon : (n.o != 0) = false := by simpa using ho0
                                          have MKD := hide (unhide MK (unhide HUP) (unhide Q0) (unhide Q1) (unhide Q2) (unhide Q3) (unhide Q4) (unhide Q5) (unhide Q6) (unhide Q7) (unhide Q8) (unhide Q9) (.inl ho0))
                                          have HC2 : Hid (∀ i m, i < k + 1 → t.ns[i]? = some m → ChkP t i m) := hide (fun i m hi hm => by
                                            by_cases e : i = k
                                            · subst e
                                              have h := unhide HN
                                              rw [hm] at h
                                              cases h
                                              exact unhide MKD
                                            · exact unhide hC i m (by omega) hm)
                                          have HX2 := hide ((unhide HX1).next (allocB _ (.cells #[.int .i64 n.c, .int .i64 n.m, .int .i64 n.q, .int .i64 n.v, .int .i64 n.k, .int .i64 n.o, .int .i64 n.n] 42)))
                                          clear ho0
                                          go_wp2_with fail
                                          go_roundg (t.ns.length - (k + 1))
                                          case measure => omega
                                          case rel => exact ⟨k + 1, rfl, by omega, Nat.le_refl _, HC2, hide (unhide HX2).d, hide (unhide HX2).g⟩
                                        · have hob : (n.o == 0) = false := by simpa using ho0
                                          have hon : (n.o != 0) = true := by simpa using ho0
                                          have HX2 := hide ((unhide HX1).next (allocB _ (.cells #[.int .i64 n.c, .int .i64 n.m, .int .i64 n.q, .int .i64 n.v, .int .i64 n.k, .int .i64 n.o, .int .i64 n.n] 42)))
                                          have CIo := hide (unhide CI n.o _ (unhide HX2).g.b)
                                          by_cases hos : n.o ∈ t.ss
                                          · by_cases hc0 : c = 0
                                            · have hcp : ¬ ((0 : Int) < (c : Int)) := by omega
                                              have hcd : decide ((0 : Int) < (c : Int)) = false := decide_eq_false hcp
                                              have MKD := hide (unhide MK (unhide HUP) (unhide Q0) (unhide Q1) (unhide Q2) (unhide Q3) (unhide Q4) (unhide Q5) (unhide Q6) (unhide Q7) (unhide Q8) (unhide Q9) (.inr ⟨hos, hc0⟩))
                                              have HC2 : Hid (∀ i m, i < k + 1 → t.ns[i]? = some m → ChkP t i m) := hide (fun i m hi hm => by
                                                by_cases e : i = k
                                                · subst e
                                                  have h := unhide HN
                                                  rw [hm] at h
                                                  cases h
                                                  exact unhide MKD
                                                · exact unhide hC i m (by omega) hm)
                                              have hbo : decide (n.o ∈ t.ss) = true := decide_eq_true hos
                                              rw [hbo] at CIo
                                              clear ho0 hbo hos hc0
                                              go_wp2_with fail
                                              refine (unhide CIo).mono ?_
                                              rintro e w9 ⟨rfl, hb9⟩
                                              have HX9 := hide ((unhide HX2).next hb9)
                                              clear hb9
                                              go_wp2_with fail
                                              go_roundg (t.ns.length - (k + 1))
                                              case measure => omega
                                              case rel => exact ⟨k + 1, rfl, by omega, Nat.le_refl _, HC2, hide (unhide HX9).d, hide (unhide HX9).g⟩
                                            · have FG := hide (unhide F (fun h => by
                                                rcases unhide HKO h with h1 | ⟨_, h1⟩
                                                · exact ho0 h1
                                                · exact hc0 h1))
                                              have hcp : (0 : Int) < (c : Int) := by omega
                                              have hcd : decide ((0 : Int) < (c : Int)) = true := decide_eq_true hcp
                                              have hbo : decide (n.o ∈ t.ss) = true := decide_eq_true hos
                                              rw [hbo] at CIo
                                              clear ho0 hbo hos hc0
                                              go_wp2_with fail
                                              refine (unhide CIo).mono ?_
                                              rintro e w9 ⟨rfl, hb9⟩
                                              have HX9 := hide ((unhide HX2).next hb9)
                                              clear hb9
                                              go_wp2_with fail
                                              go_ret
                                              exact ⟨nret_bool (unhide FG), (unhide HX9).g.b⟩
                                          · have FG := hide (unhide F (fun h => by
                                              rcases unhide HKO h with h1 | ⟨h1, _⟩
                                              · exact ho0 h1
                                              · exact hos h1))
                                            have hbo : decide (n.o ∈ t.ss) = false := decide_eq_false hos
                                            rw [hbo] at CIo
                                            clear ho0 hbo hos
                                            go_wp2_with fail
                                            refine (unhide CIo).mono ?_
                                            rintro e w9 ⟨rfl, hb9⟩
                                            have HX9 := hide ((unhide HX2).next hb9)
                                            clear hb9
                                            go_wp2_with fail
                                            go_ret
                                            exact ⟨nret_bool (unhide FG), (unhide HX9).g.b⟩
                                      · have g9n : t.z < n.q := by omega
                                        have g9d : decide (t.z < n.q) = true := decide_eq_true g9n
                                        have FG := hide (unhide F (fun h => q9 (h.qz)))
                                        clear q9
                                        go_wp2_with fail
                                        go_ret
                                        exact ⟨nret_bool (unhide FG), nnext (unhide BW) (allocB _ _)⟩
                                    · have g8n : t.z < n.m := by omega
                                      have g8d : decide (t.z < n.m) = true := decide_eq_true g8n
                                      have FG := hide (unhide F (fun h => q8 (h.mz)))
                                      clear q8
                                      go_wp2_with fail
                                      go_ret
                                      exact ⟨nret_bool (unhide FG), nnext (unhide BW) (allocB _ _)⟩
                                  · have g7n : n.q < n.c := by omega
                                    have g7d : decide (n.q < n.c) = true := decide_eq_true g7n
                                    have FG := hide (unhide F (fun h => q7 (h.cq)))
                                    clear q7
                                    go_wp2_with fail
                                    go_ret
                                    exact ⟨nret_bool (unhide FG), nnext (unhide BW) (allocB _ _)⟩
                                · have g6n : n.m < n.c := by omega
                                  have g6d : decide (n.m < n.c) = true := decide_eq_true g6n
                                  have FG := hide (unhide F (fun h => q6 (h.cm)))
                                  clear q6
                                  go_wp2_with fail
                                  go_ret
                                  exact ⟨nret_bool (unhide FG), nnext (unhide BW) (allocB _ _)⟩
                              · have g5n : n.c < 0 := by omega
                                have g5d : decide (n.c < 0) = true := decide_eq_true g5n
                                have FG := hide (unhide F (fun h => q5 (h.c0)))
                                clear q5
                                go_wp2_with fail
                                go_ret
                                exact ⟨nret_bool (unhide FG), nnext (unhide BW) (allocB _ _)⟩
                            · have g4n : (2147483648 : Int) ≤ n.k := by omega
                              have g4d : decide ((2147483648 : Int) ≤ n.k) = true := decide_eq_true g4n
                              have FG := hide (unhide F (fun h => q4 (h.k1)))
                              clear q4
                              go_wp2_with fail
                              go_ret
                              exact ⟨nret_bool (unhide FG), nnext (unhide BW) (allocB _ _)⟩
                          · have g3n : n.k < 0 := by omega
                            have g3d : decide (n.k < 0) = true := decide_eq_true g3n
                            have FG := hide (unhide F (fun h => q3 (h.k0)))
                            clear q3
                            go_wp2_with fail
                            go_ret
                            exact ⟨nret_bool (unhide FG), nnext (unhide BW) (allocB _ _)⟩
                        · have g2n : (2147483648 : Int) ≤ n.v := by omega
                          have g2d : decide ((2147483648 : Int) ≤ n.v) = true := decide_eq_true g2n
                          have FG := hide (unhide F (fun h => q2 (h.v1)))
                          clear q2
                          go_wp2_with fail
                          go_ret
                          exact ⟨nret_bool (unhide FG), nnext (unhide BW) (allocB _ _)⟩
                      · have g1n : n.v < 0 := by omega
                        have g1d : decide (n.v < 0) = true := decide_eq_true g1n
                        have FG := hide (unhide F (fun h => q1 (h.v0)))
                        clear q1
                        go_wp2_with fail
                        go_ret
                        exact ⟨nret_bool (unhide FG), nnext (unhide BW) (allocB _ _)⟩
                    · have g0b : (n.n == (c : Int)) = false := by simpa using q0
                      have g0n : (n.n != (c : Int)) = true := by simpa using q0
                      have FG := hide (unhide F (fun h => q0 (unhide HKK h)))
                      clear q0
                      go_wp2_with fail
                      go_ret
                      exact ⟨nret_bool (unhide FG), nnext (unhide BW) (allocB _ _)⟩
            · obtain rfl : k = t.ns.length := by omega
              have FG := hide (unhide YES (unhide HSA) (unhide HPA) (fun i n hn => unhide hC i n (List.getElem?_eq_some_iff.1 hn).1 hn))
              go_wp2_with fail
              go_ret
              exact ⟨nret_bool (unhide FG), (unhide hT).b⟩

end Go.Proofs.YtkgaoedlnejigaaDoor
