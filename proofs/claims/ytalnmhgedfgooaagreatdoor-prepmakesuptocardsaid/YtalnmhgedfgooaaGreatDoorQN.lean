/-
  aviaryref's GoodTree, of every tree: the walk's refusals.
  aviaryref's Apply: how what it makes lies in memory; its closures no and parent: the walks.
  aviaryref's Apply: its closure parent: the walk.
  aviaryref's Apply: its closure gone: the walk.
-/
import Derived.Test.YtalnmhgedfgooaaGreatDoorQM
import Derived.Test.YtalnmhgedfgooaaGreatDoorQL
import Derived.Test.YtalnmhgedfgooaaGreatDoorME
import Derived.Deep.QuietTactic
import Derived.BigQuiet
import Derived.BigRegion
namespace Go.Proofs.YtalnmhgedfgooaaGreatDoor
open Go.RowKit

set_option maxRecDepth 20000 in
set_option maxHeartbeats 4000000 in
theorem rgoodT_none (t : Tr) (va : Option Addr) (vc : Nat) (vs : Value) (w : World) (h0 : t.ns = []) :
    Calls Tryz.prog 22 #[.agg #[.int .i64 t.z, .slice va 0 vc, vs]] w fun e w' => e = .returned (.bool (goodT t)) ∧ Below w.heap.size w w' := by
  have FG := (goodT_false (t := t)).2 (fun g => by obtain ⟨r, rest, e, _⟩ := g.nod.root; rw [h0] at e; cases e)
  rw [FG]
  clear FG h0
  go_enter Tryz.func22, Tryz.ntmps22
  go_wp2_with fail
  go_ret
  exact ⟨rfl, allocB _ _⟩
set_option maxRecDepth 20000 in
set_option maxHeartbeats 4000000 in
theorem rgoodT_many (t : Tr) (va : Option Addr) (vc : Nat) (vs : Value) (w : World) (h1 : 400 < t.ns.length) :
    Calls Tryz.prog 22 #[.agg #[.int .i64 t.z, .slice va t.ns.length vc, vs]] w fun e w' => e = .returned (.bool (goodT t)) ∧ Below w.heap.size w w' := by
  have FG := (goodT_false (t := t)).2 (fun g => by have := g.nod.few; omega)
  rw [FG]
  have hb : (400 : Int) < (t.ns.length : Int) := by omega
  have ha : ¬ ((t.ns.length : Int) < 1) := by omega
  have hd : decide ((400 : Int) < (t.ns.length : Int)) = true := decide_eq_true hb
  have he : decide ((t.ns.length : Int) < 1) = false := decide_eq_false ha
  clear FG
  go_enter Tryz.func22, Tryz.ntmps22
  go_wp2_with fail
  go_ret
  exact ⟨rfl, allocB _ _⟩
set_option maxRecDepth 20000 in
set_option maxHeartbeats 4000000 in
theorem rgoodT_root (t : Tr) (b off vc : Nat) (vs : Value) (r : Nd) (w : World) (h1 : 1 ≤ t.ns.length) (h2 : t.ns.length ≤ 400) (hb : b < w.heap.size) (r0 : w.cell? ⟨b, off, none⟩ = some (.string ⟨r.p.toArray⟩)) (hr : r.p ≠ [47]) (h0 : t.ns[0]? = some r) :
    Calls Tryz.prog 22 #[.agg #[.int .i64 t.z, .slice (some ⟨b, off, none⟩) t.ns.length vc, vs]] w fun e w' => e = .returned (.bool (goodT t)) ∧ Below w.heap.size w w' := by
  have FG := (goodT_false (t := t)).2 (fun g => by
    obtain ⟨r', rest, e, hp, _⟩ := g.nod.root
    rw [e] at h0
    simp at h0
    subst h0
    exact hr hp)
  rw [FG]
  have ha : ¬ ((t.ns.length : Int) < 1) := by omega
  have hc : ¬ ((400 : Int) < (t.ns.length : Int)) := by omega
  have hpb : (r.p == [47]) = false := by simpa using hr
  have hn : b ≠ w.heap.size := by omega
  clear FG hr h0
  go_enter Tryz.func22, Tryz.ntmps22
  go_wp2_with fail
  go_ret
  exact ⟨rfl, allocB _ _⟩
set_option maxRecDepth 20000 in
set_option maxHeartbeats 4000000 in
theorem rgoodT_own (t : Tr) (b off vc : Nat) (vs : Value) (r : Nd) (w : World) (h1 : 1 ≤ t.ns.length) (h2 : t.ns.length ≤ 400) (hb : b < w.heap.size) (r0 : w.cell? ⟨b, off, none⟩ = some (.string ⟨#[47]⟩)) (r7 : w.cell? ⟨b, off + 7, none⟩ = some (.int .i64 r.o)) (ho : r.o ≠ 0) (h0 : t.ns[0]? = some r) :
    Calls Tryz.prog 22 #[.agg #[.int .i64 t.z, .slice (some ⟨b, off, none⟩) t.ns.length vc, vs]] w fun e w' => e = .returned (.bool (goodT t)) ∧ Below w.heap.size w w' := by
  have FG := (goodT_false (t := t)).2 (fun g => by
    obtain ⟨r', rest, e, _, hp⟩ := g.nod.root
    rw [e] at h0
    simp at h0
    subst h0
    exact ho hp)
  rw [FG]
  have ha : ¬ ((t.ns.length : Int) < 1) := by omega
  have hc : ¬ ((400 : Int) < (t.ns.length : Int)) := by omega
  have hob : (r.o == 0) = false := by simpa using ho
  have hon : (r.o != 0) = true := by simpa using ho
  have hn : b ≠ w.heap.size := by omega
  clear FG ho h0
  go_enter Tryz.func22, Tryz.ntmps22
  go_wp2_with fail
  go_ret
  exact ⟨rfl, allocB _ _⟩
set_option maxRecDepth 20000 in
set_option maxHeartbeats 4000000 in
theorem rgoodT_zx (t : Tr) (b off vc : Nat) (vs : Value) (w : World) (h1 : 1 ≤ t.ns.length) (h2 : t.ns.length ≤ 400) (hb : b < w.heap.size) (r0 : w.cell? ⟨b, off, none⟩ = some (.string ⟨#[47]⟩)) (r7 : w.cell? ⟨b, off + 7, none⟩ = some (.int .i64 0)) (hzb : t.z ≤ 9223372036854775807) (hz : zGood t.z = false) :
    Calls Tryz.prog 22 #[.agg #[.int .i64 t.z, .slice (some ⟨b, off, none⟩) t.ns.length vc, vs]] w fun e w' => e = .returned (.bool (goodT t)) ∧ Below w.heap.size w w' := by
  have FG := (goodT_false (t := t)).2 (fun g => by have := g.zx; rw [hz] at this; cases this)
  rw [FG]
  have CZ := fun W => rgood_any t.z hzb W
  rw [hz] at CZ
  have ha : ¬ ((t.ns.length : Int) < 1) := by omega
  have hc : ¬ ((400 : Int) < (t.ns.length : Int)) := by omega
  have hn : b ≠ w.heap.size := by omega
  clear FG hz
  go_enter Tryz.func22, Tryz.ntmps22
  go_wp2_with fail
  refine (CZ _).mono ?_
  rintro e w1 ⟨rfl, rfl⟩
  go_wp2_with fail
  go_ret
  exact ⟨rfl, allocB _ _⟩
theorem rgoodT_any (t : Tr) (vn vs : Value) (w : World) (hn : SeqV w vn t.ns) (hs : SeqV w vs t.ss) (hw : WfT t) (hzb : t.z ≤ 9223372036854775807) (hlong : ∀ n ∈ t.ns, n.p.length ≤ 1048576) (hls : t.ss.length ≤ 140737488355328) :
    Calls Tryz.prog 22 #[.agg #[.int .i64 t.z, vn, vs]] w fun e w' => e = .returned (.bool (goodT t)) ∧ Below w.heap.size w w' := by
  cases he : t.ns with
  | nil =>
    obtain ⟨a, c, e⟩ := seq_slice hn
    rw [e, he]
    exact rgoodT_none t a c vs w he
  | cons r rest =>
    by_cases hl : t.ns.length ≤ 400
    · have h1 : 1 ≤ t.ns.length := by rw [he]; simp
      have h0 : t.ns[0]? = some r := by rw [he]; rfl
      obtain ⟨b, off, cap, e, hb, hrow, _, _⟩ := seq_row hn (by rw [he]; simp)
      have r0 := hrow.n0 h0
      have r7 := hrow.n7 h0
      simp only [Nat.zero_mul, Nat.add_zero] at r0 r7
      by_cases hp : r.p = [47]
      · rw [hp] at r0
        by_cases ho : r.o = 0
        · rw [ho] at r7
          cases hz : zGood t.z
          · rw [e]
            exact rgoodT_zx t b off cap vs w h1 hl hb r0 r7 hzb hz
          · exact rgoodT_main t vn vs w hn hs hw hzb hlong hls r rest he hp ho hl hz
        · rw [e]
          exact rgoodT_own t b off cap vs r w h1 hl hb r0 r7 ho h0
      · rw [e]
        exact rgoodT_root t b off cap vs r w h1 hl hb r0 hp h0
    · obtain ⟨a, c, e⟩ := seq_slice hn
      rw [e]
      exact rgoodT_many t a c vs w (by omega)

end Go.Proofs.YtalnmhgedfgooaaGreatDoor

namespace Go.Proofs.YtalnmhgedfgooaaGreatDoor
open Go.RowKit

/-- the tree and the events under way: two boxes, three rows of the call's own -/
structure RG (W : World) (F : Nat → Prop) (bo be : Nat) (z : Int) (vn vs ve : Value) (ns : List Nd) (ss : List Int) (es : List Ev) : Prop where
  o : W.heap[bo]? = some (.cells #[.int .i64 z, vn, vs] 25 (0, 0))
  v : W.heap[be]? = some (.cells #[ve] 39 (0, 0))
  oe : bo ≠ be
  fo : F bo
  fv : F be
  n : OwnS W 0 vn ns
  s : OwnS W 0 vs ss
  e : OwnS W 0 ve es
  kn : ∀ k, vn.ownBlock = some k → F k ∧ k ≠ bo ∧ k ≠ be ∧ vs.ownBlock ≠ some k ∧ ve.ownBlock ≠ some k
  ks : ∀ k, vs.ownBlock = some k → F k ∧ k ≠ bo ∧ k ≠ be ∧ ve.ownBlock ≠ some k
  ke : ∀ k, ve.ownBlock = some k → F k ∧ k ≠ bo ∧ k ≠ be
section
variable {W V : World} {F : Nat → Prop} {bo be : Nat} {z : Int} {vn vs ve : Value} {ns : List Nd} {ss : List Int} {es : List Ev}
theorem RG.lo (h : RG W F bo be z vn vs ve ns ss es) : bo < W.heap.size := (Array.getElem?_eq_some_iff.1 h.o).1
theorem RG.le (h : RG W F bo be z vn vs ve ns ss es) : be < W.heap.size := (Array.getElem?_eq_some_iff.1 h.v).1
theorem RG.next (h : RG W F bo be z vn vs ve ns ss es) (hb : Below W.heap.size W V) : RG V F bo be z vn vs ve ns ss es :=
  ⟨(hb.block _ h.lo).trans h.o, (hb.block _ h.le).trans h.v, h.oe, h.fo, h.fv, h.n.next hb, h.s.next hb, h.e.next hb, h.kn, h.ks, h.ke⟩
theorem RG.c0 (h : RG W F bo be z vn vs ve ns ss es) : W.cell? ⟨bo, 0, none⟩ = some (.int .i64 z) := by simp [World.cell?, h.o]
theorem RG.c1 (h : RG W F bo be z vn vs ve ns ss es) : W.cell? ⟨bo, 1, none⟩ = some vn := by simp [World.cell?, h.o]
theorem RG.c2 (h : RG W F bo be z vn vs ve ns ss es) : W.cell? ⟨bo, 2, none⟩ = some vs := by simp [World.cell?, h.o]
theorem RG.ce (h : RG W F bo be z vn vs ve ns ss es) : W.cell? ⟨be, 0, none⟩ = some ve := by simp [World.cell?, h.v]
theorem RG.fzo (h : RG W F bo be z vn vs ve ns ss es) (j : Nat) : W.frozen? ⟨bo, j, none⟩ = false := by simp [World.frozen?, h.o]
theorem RG.fze (h : RG W F bo be z vn vs ve ns ss es) (j : Nat) : W.frozen? ⟨be, j, none⟩ = false := by simp [World.frozen?, h.v]
/-- new events -/
theorem RG.ev {ve' : Value} {es' : List Ev} (h : RG W F bo be z vn vs ve ns ss es) (hF : ∀ k, W.heap.size ≤ k → F k) (hg : W.grownBy V ve.ownBlock) (he : OwnS V 0 ve' es') (hl : ve'.ownBlock = ve.ownBlock ∨ ve'.ownBlock = some W.heap.size) :
    RG (V.setCell ⟨be, 0, none⟩ ve') F bo be z vn vs ve' ns ss es' := by
  have hlo := h.lo
  have hle := h.le
  have nbe : some be ≠ ve.ownBlock := fun e => (h.ke be e.symm).2.2 rfl
  have nbo : some bo ≠ ve.ownBlock := fun e => (h.ke bo e.symm).2.1 rfl
  have hk : ∀ k, ve'.ownBlock = some k → F k ∧ k ≠ bo ∧ k ≠ be ∧ vn.ownBlock ≠ some k ∧ vs.ownBlock ≠ some k := by
    intro k hk
    rcases hl with e | e
    · rw [e] at hk
      obtain ⟨h1, h2, h3⟩ := h.ke k hk
      exact ⟨h1, h2, h3, fun hn => (h.kn k hn).2.2.2.2 hk, fun hs => (h.ks k hs).2.2.2 hk⟩
    · rw [e] at hk
      cases hk
      exact ⟨hF _ (Nat.le_refl _), by omega, by omega, fun hn => by have := h.n.low _ hn; omega, fun hs => by have := h.s.low _ hs; omega⟩
  refine ⟨?_, ?_, h.oe, h.fo, h.fv, ?_, ?_, ?_, fun k hn => ⟨(h.kn k hn).1, (h.kn k hn).2.1, (h.kn k hn).2.2.1, (h.kn k hn).2.2.2.1, fun e => (hk k e).2.2.2.1 hn⟩, fun k hs => ⟨(h.ks k hs).1, (h.ks k hs).2.1, (h.ks k hs).2.2.1, fun e => (hk k e).2.2.2.2 hs⟩, fun k he => ⟨(hk k he).1, (hk k he).2.1, (hk k he).2.2.1⟩⟩
  · exact (Below.heap_setCell V ⟨be, 0, none⟩ ve' bo h.oe).trans ((hg.block bo hlo nbo).trans h.o)
  · rw [block_set ve' ((hg.block be hle nbe).trans h.v)]
    rfl
  · exact (h.n.grown hg (fun k hn e => (h.kn k hn).2.2.2.2 e.symm)).other (fun e => (h.kn be e).2.2.1 rfl) _
  · exact (h.s.grown hg (fun k hs e => (h.ks k hs).2.2.2 e.symm)).other (fun e => (h.ks be e).2.2.1 rfl) _
  · exact he.other (fun e => (hk be e).2.2.1 rfl) _
/-- new nodes, in a new row -/
theorem RG.nd {vn' : Value} {ns' : List Nd} (h : RG W F bo be z vn vs ve ns ss es) (hF : ∀ k, W.heap.size ≤ k → F k) (hb : Below W.heap.size W V) (hn : OwnS V W.heap.size vn' ns') : RG (V.setCell ⟨bo, 1, none⟩ vn') F bo be z vn' vs ve ns' ss es := by
  have hlo := h.lo
  have hle := h.le
  have g := h.next hb
  have ha := fun k (hk : vn'.ownBlock = some k) => (show W.heap.size ≤ k by
    rcases hn with ⟨rfl, _⟩ | ⟨q, cap, rfl, h1, _⟩
    · cases hk
    · simp only [Value.ownBlock, Option.some.injEq] at hk; omega)
  refine ⟨?_, (Below.heap_setCell V ⟨bo, 1, none⟩ vn' be (fun e => h.oe e.symm)).trans g.v, h.oe, h.fo, h.fv, (hn.lower (Nat.zero_le _)).other (fun e => by have := ha bo e; omega) _, g.s.other (fun e => (h.ks bo e).2.1 rfl) _, g.e.other (fun e => (h.ke bo e).2.1 rfl) _, fun k hk => ?_, h.ks, h.ke⟩
  · rw [block_set vn' g.o]
    rfl
  · have := ha k hk
    exact ⟨hF k this, by omega, by omega, fun e => by have := h.s.low _ e; omega, fun e => by have := h.e.low _ e; omega⟩
/-- new sessions, in a new row -/
theorem RG.se {vs' : Value} {ss' : List Int} (h : RG W F bo be z vn vs ve ns ss es) (hF : ∀ k, W.heap.size ≤ k → F k) (hb : Below W.heap.size W V) (hs : OwnS V W.heap.size vs' ss') : RG (V.setCell ⟨bo, 2, none⟩ vs') F bo be z vn vs' ve ns ss' es := by
  have hlo := h.lo
  have hle := h.le
  have g := h.next hb
  have ha := fun k (hk : vs'.ownBlock = some k) => (show W.heap.size ≤ k by
    rcases hs with ⟨rfl, _⟩ | ⟨q, cap, rfl, h1, _⟩
    · cases hk
    · simp only [Value.ownBlock, Option.some.injEq] at hk; omega)
  refine ⟨?_, (Below.heap_setCell V ⟨bo, 2, none⟩ vs' be (fun e => h.oe e.symm)).trans g.v, h.oe, h.fo, h.fv, g.n.other (fun e => (h.kn bo e).2.1 rfl) _, (hs.lower (Nat.zero_le _)).other (fun e => by have := ha bo e; omega) _, g.e.other (fun e => (h.ke bo e).2.1 rfl) _, fun k hk => ⟨(h.kn k hk).1, (h.kn k hk).2.1, (h.kn k hk).2.2.1, fun e => by have := ha k e; have := h.n.low k hk; omega, (h.kn k hk).2.2.2.2⟩, fun k hk => ?_, h.ke⟩
  · rw [block_set vs' g.o]
    rfl
  · have := ha k hk
    exact ⟨hF k this, by omega, by omega, fun e => by have := h.e.low _ e; omega⟩
/-- a cell of a node -/
theorem RG.put {g cap l : Nat} {A B : List Nd} {n m : Nd} (h : RG W F bo be z (.slice (some ⟨g, 0, none⟩) l cap) vs ve (A ++ n :: B) ss es) {c : Nat} (hc : c < 9) {v : Value} (hm : ncells m = (ncells n).set c v) :
    RG (W.setCell ⟨g, A.length * 9 + c, none⟩ v) F bo be z (.slice (some ⟨g, 0, none⟩) l cap) vs ve (A ++ m :: B) ss es := by
  obtain ⟨_, hgo, hge, hgs, hgv⟩ := h.kn g rfl
  refine ⟨(Below.heap_setCell W ⟨g, _, none⟩ v bo (fun e => hgo e.symm)).trans h.o, (Below.heap_setCell W ⟨g, _, none⟩ v be (fun e => hge e.symm)).trans h.v, h.oe, h.fo, h.fv, ?_, h.s.other (fun e => hgs e) _, h.e.other (fun e => hgv e) _, h.kn, h.ks, h.ke⟩
  rcases h.n with ⟨h1, _⟩ | ⟨g', cap', h1, h2, h3⟩
  · cases h1
  · simp only [Value.slice.injEq, Option.some.injEq, Addr.mk.injEq, and_true] at h1
    obtain ⟨rfl, rfl, rfl⟩ := h1
    exact .inr ⟨g, cap, by simp, h2, h3.set (c := c) (by exact hc) hm⟩
theorem RG.nrow (h : RG W F bo be z vn vs ve ns ss es) (h0 : ns ≠ []) : ∃ g cap, vn = .slice (some ⟨g, 0, none⟩) ns.length cap ∧ OwnR W g cap ns ∧ g ≠ bo ∧ g ≠ be ∧ F g := by
  rcases h.n with ⟨_, h1⟩ | ⟨g, cap, rfl, _, h3⟩
  · exact absurd h1 h0
  · exact ⟨g, cap, rfl, h3, (h.kn g rfl).2.1, (h.kn g rfl).2.2.1, (h.kn g rfl).1⟩
end

set_option maxHeartbeats 1000000 in
theorem rno_any (E : Int) (w : World) :
    Calls Tryz.prog 53 #[.int .i64 E] w fun r w' => r = .returned (.tuple #[.agg #[.int .i64 0, .slice none 0 0, .slice none 0 0], .slice none 0 0, .int .i64 E]) ∧ Below w.heap.size w w' := by
  go_enter Tryz.func53, Tryz.ntmps53
  go_wp2_with fail
  exact bodyPost_ret (v := .tuple #[.agg #[.int .i64 0, .slice none 0 0, .slice none 0 0], .slice none 0 0, .int .i64 E]) (by simp [results, Tryz.results53, go_sem]) rfl ⟨rfl, allocB _ _⟩

theorem one_newE (w : World) (k : Int) (p : List UInt8) : OneR (w.alloc (.cells #[.int .i64 k, .string ⟨p.toArray⟩] 91)) w.heap.size (⟨k, p⟩ : Ev) := heap_alloc_new w _
theorem wpList_app_ev1 {w : World} {ops : Array Oper} {rest : List Oper} {o : Oper} {a : Act} {Q : Exit → Act → World → Prop} (hgd : o.guard = none) (s x : Operand)
    (ho : o.op = .call { callee := .builtin .append, args := #[s, x], argTypes := #[39, 39] })
    (v : Value) (es : List Ev) (hs : a.eval s = v) (hown : OwnS w 0 v es) (q : Nat) (hx : a.eval x = .slice (some ⟨q, 0, none⟩) 1 1) (t : Ev) (hnews : OneR w q t) (hl : es.length ≤ 100000)
    (h : ∀ a' c' w', OwnS w' 0 (.slice a' (es.length + 1) c') (es ++ [t]) → w.grownBy w' v.ownBlock → ((Value.slice a' (es.length + 1) c').ownBlock = v.ownBlock ∨ (Value.slice a' (es.length + 1) c').ownBlock = some w.heap.size) → wpList Tryz.prog ops Q rest (a.put o.dst (.slice a' (es.length + 1) c')) w') :
    wpList Tryz.prog ops Q (o :: rest) a w := by
  refine wpList_plain hgd fun K hK => ?_
  obtain ⟨i0, hi0, hz0, hz1, hz2⟩ := einfo
  obtain ⟨v', w', hr, h2, h3, _, h5⟩ := run_append_own_at (P := Tryz.prog) w 0 39 o.type 91 i0 _ 2 24 Tryz.underlying39 hi0 hz0 hz1 hz2 rfl (by decide) v es.length (cellsL es) hown.row ⟨q, 0, none⟩ 1 1 (ecells t) rfl (one_news hnews) (Lay.one t) (by simp only [maxLen]; omega) (by omega) (Nat.zero_le _)
  have h2' : OwnS w' 0 v' (es ++ [t]) := OwnS.of_row (by rw [List.length_append, cellsL_snoc]; exact h2)
  obtain ⟨a', c', rfl, _⟩ := h2'.slice
  rw [List.length_append, List.length_singleton] at h2' hr h5
  unfold Oper.wp execOp
  simp only [ho, resolve, invoke, builtin, Sem.run_bind, Sem.run_pure, Result.andThen_ok, List.map_toArray, List.map_cons, List.map_nil, hs, hx, hr]
  exact hK _ _ (h a' c' w' h2' h3 h5)

end Go.Proofs.YtalnmhgedfgooaaGreatDoor

namespace Go.Proofs.YtalnmhgedfgooaaGreatDoor
open Go.RowKit

set_option maxRecDepth 20000 in
set_option maxHeartbeats 4000000 in
theorem rparent_any (F : Nat → Prop) (bo be bx : Nat) (z : Int) (vn vs ve : Value) (ns A B : List Nd) (u : Nd) (ss : List Int) (es : List Ev) (p : List UInt8) (more xz : Int) (w : World)
    (h : RG w F bo be z vn vs ve ns ss es) (hF : ∀ k, w.heap.size ≤ k → F k) (hx : w.cell? ⟨bx, 0, none⟩ = some (.int .i64 xz)) (hxl : bx < w.heap.size) (hxF : ¬ F bx) (T : NThere ns A u B (dirOf p)) (hl : ns.length ≤ 400) (hk : 0 ≤ u.k ∧ u.k ≤ 4294967296) (hn : 0 ≤ u.n ∧ u.n ≤ 1000) (hm : -1 ≤ more ∧ more ≤ 1) (hp : p.length ≤ 1048576) (hes : es.length ≤ 99999) :
    Calls Tryz.prog 55 #[.string ⟨p.toArray⟩, .int .i64 more, .pointer (some ⟨bo, 0, none⟩), .pointer (some ⟨bx, 0, none⟩), .pointer (some ⟨be, 0, none⟩)] w fun e w' => e = .returned (.tuple #[]) ∧ ∃ ve', RG w' F bo be z vn vs ve' (A ++ bump xz more u :: B) ss (es ++ [⟨4, dirOf p⟩]) ∧ Touch F w w' := by
  have CS := rsplit_any p w hp
  have CN := hide (fun W (hW : Below w.heap.size w W) => rnode_at z vn vs ns (dirOf p) A.length u W (h.n.next hW).seq (by omega) (at_there T))
  obtain ⟨g, cap, rfl, hr, hgo, hge, hFg⟩ := h.nrow (by rw [T.eq]; simp)
  have HG := hide h
  have HE := hide T.eq
  have HF := hide hF
  have HX := hide (fun W (hW : Below w.heap.size w W) => (hW.cell (p := ⟨bx, 0, none⟩) hxl).trans hx)
  have hlt : A.length < ns.length := by rw [T.eq]; simp
  have hgx : g ≠ bx := fun e => hxF (e ▸ hFg)
  obtain ⟨sa, sc, rfl, _⟩ := h.s.slice
  have hlti : (A.length : Int) < (ns.length : Int) := by omega
  clear h hr T hF hx
  go_enter Tryz.func55, Tryz.ntmps55
  go_wp2_with fail
  refine CS.mono ?_
  rintro e w1 ⟨rfl, hb1⟩
  have g1 := (unhide HG).next hb1
  have c0 := g1.c0
  have c1 := g1.c1
  have c2 := g1.c2
  have HB1 := hide hb1
  clear CS hb1 g1
  go_upto_region 1 with fail
  go_cut [10] from 11 (fun t10 wx => t10 = .pointer (some ⟨g, A.length * 9 + 2, none⟩) ∧ Hid (Below w1.heap.size w1 wx))
  case first =>
    go_region_law (go_simp; refine (unhide CN _ (by first | exact unhide HB1 | exact (unhide HB1).drew)).mono ?_; rintro e w2 ⟨rfl, hb2⟩; have HB2 : Hid (Below w1.heap.size w1 w2) := (by first | exact hb2 | exact nbelow_drew hb2); have g2 := (unhide HG).next (nnext (unhide HB1) (unhide HB2)); have e0 := g2.c0; have e1 := g2.c1; have e2 := g2.c2; clear hb2 g2)
    all_goals go_wp2_with fail
    all_goals go_meet
    all_goals exact ⟨rfl, HB2⟩
  case rest =>
    obtain ⟨rfl, HB2⟩ := hcut
    have HB02 := hide (nnext (unhide HB1) (unhide HB2))
    have g2 := (unhide HG).next (unhide HB02)
    have x0 := unhide HX wc (unhide HB02)
    obtain ⟨g', cap', he, hr, _, _, _⟩ := g2.nrow (by rw [unhide HE]; simp)
    simp only [Value.slice.injEq, Option.some.injEq, Addr.mk.injEq, and_true] at he
    obtain ⟨rfl, _, rfl⟩ := he
    have at' : ns[A.length]? = some u := by rw [unhide HE]; exact nat_at A u B
    have r4 := hr.row.n4 at'
    have r6 := hr.row.n6 at'
    have r8 := hr.row.n8 at'
    have z4 := hr.frozen (A.length * 9 + 4)
    have z6 := hr.frozen (A.length * 9 + 6)
    have z8 := hr.frozen (A.length * 9 + 8)
    rw [Nat.zero_add] at r4 r6 r8
    have WN := hide (show IntKind.i64.wrap (u.n + more) = u.n + more by rw [IntKind.wrap_i64]; omega)
    have WK := hide (show IntKind.i64.wrap (u.k + 1) = u.k + 1 by rw [IntKind.wrap_i64]; omega)
    have VN := hide (show wrap64 (u.n + more) = u.n + more by unfold wrap64; omega)
    have VK := hide (show wrap64 (u.k + 1) = u.k + 1 by unfold wrap64; omega)
    have Q4 : Hid (RG (((wc.setCell ⟨g, A.length * 9 + 8, none⟩ (.int .i64 (u.n + more))).setCell ⟨g, A.length * 9 + 6, none⟩ (.int .i64 (u.k + 1))).setCell ⟨g, A.length * 9 + 4, none⟩ (.int .i64 xz)) F bo be z (.slice (some ⟨g, 0, none⟩) ns.length cap) (.slice sa ss.length sc) ve (A ++ bump xz more u :: B) ss es ∧ Touch F w (((wc.setCell ⟨g, A.length * 9 + 8, none⟩ (.int .i64 (u.n + more))).setCell ⟨g, A.length * 9 + 6, none⟩ (.int .i64 (u.k + 1))).setCell ⟨g, A.length * 9 + 4, none⟩ (.int .i64 xz))) := hide (by
      have e0 := g2
      rw [unhide HE] at e0
      have e1 := e0.put (m := ⟨u.p, u.d, u.c, u.m, u.q, u.v, u.k, u.o, u.n + more⟩) (c := 8) (by omega) (v := .int .i64 (u.n + more)) rfl
      have e2 := e1.put (m := ⟨u.p, u.d, u.c, u.m, u.q, u.v, u.k + 1, u.o, u.n + more⟩) (c := 6) (by omega) (v := .int .i64 (u.k + 1)) rfl
      have e3 := e2.put (m := bump xz more u) (c := 4) (by omega) (v := .int .i64 xz) rfl
      rw [unhide HE]
      exact ⟨e3, (((Touch.of_below (unhide HB02)).trans (Touch.set (a := ⟨g, A.length * 9 + 8, none⟩) hFg _)).trans (Touch.set (a := ⟨g, A.length * 9 + 6, none⟩) hFg _)).trans (Touch.set (a := ⟨g, A.length * 9 + 4, none⟩) hFg _)⟩)
    clear at' g2 hr c0 c1 c2
    go_upto_region 2 with fail
    go_cut [10] from 11 (fun t10 wx => t10 = .pointer (some ⟨g, A.length * 9 + 2, none⟩) ∧ Hid (RG wx F bo be z (.slice (some ⟨g, 0, none⟩) ns.length cap) (.slice sa ss.length sc) ve (A ++ bump xz more u :: B) ss es ∧ Touch F w wx))
    case first =>
      clear CN HG HE HF HX HB1 HB2 HB02 hlti hlt hk hn hm hp hes hl
      go_region
      all_goals (first | rw [unhide WN, unhide WK] | rw [unhide VN, unhide VK])
      all_goals go_wp2_with fail
      all_goals go_meet
      all_goals exact ⟨rfl, hide ⟨(unhide Q4).1.next (Below.refl _ _).drew, (unhide Q4).2.drew⟩⟩
    case rest =>
      obtain ⟨rfl, hq⟩ := hcut
      have g3 := (unhide hq).1
      have HG3 := hide g3
      have HT3 := hide (unhide hq).2
      have ke := g3.ce
      have hle := g3.le
      have hws := (unhide HT3).size
      obtain ⟨ea, ec, rfl, _⟩ := g3.e.slice
      have K4 : Hid (∀ (w4 : World) (a4 : Option Addr) (c4 : Nat), OwnS w4 0 (.slice a4 (es.length + 1) c4) (es ++ [⟨4, dirOf p⟩]) → (wc.alloc (.cells #[.int .i64 4, .string ⟨(dirOf p).toArray⟩] 91)).grownBy w4 (Value.slice ea es.length ec).ownBlock → ((Value.slice a4 (es.length + 1) c4).ownBlock = (Value.slice ea es.length ec).ownBlock ∨ (Value.slice a4 (es.length + 1) c4).ownBlock = some (wc.alloc (.cells #[.int .i64 4, .string ⟨(dirOf p).toArray⟩] 91)).heap.size) →
          w4.cell? ⟨be, 0, none⟩ = some (.slice ea es.length ec) ∧ w4.frozen? ⟨be, 0, none⟩ = false ∧ be < w4.heap.size ∧ RG (w4.setCell ⟨be, 0, none⟩ (.slice a4 (es.length + 1) c4)) F bo be z (.slice (some ⟨g, 0, none⟩) ns.length cap) (.slice sa ss.length sc) (.slice a4 (es.length + 1) c4) (A ++ bump xz more u :: B) ss (es ++ [⟨4, dirOf p⟩]) ∧ Touch F w (w4.setCell ⟨be, 0, none⟩ (.slice a4 (es.length + 1) c4))) := hide (by
        intro w4 a4 c4 ho4 hg4 hl4
        have gx := (unhide HG3).next (allocB wc (.cells #[.int .i64 4, .string ⟨(dirOf p).toArray⟩] 91))
        have nbe : some be ≠ (Value.slice ea es.length ec).ownBlock := fun e => (gx.ke be e.symm).2.2 rfl
        have t4 : Touch F w w4 := ((unhide HT3).trans (Touch.of_below (allocB _ _))).trans (Touch.of_grown hg4 (fun k e => (gx.ke k e).1))
        exact ⟨hg4.cell gx.ce nbe, (World.frozen?_of_block (hg4.block be gx.le nbe)).trans (gx.fze 0), Nat.lt_of_lt_of_le gx.le hg4.size, gx.ev (fun k hk => unhide HF k (by simp at hk; omega)) hg4 ho4 hl4, t4.trans (Touch.set (a := ⟨be, 0, none⟩) gx.fv _)⟩)
      clear g3 hq Q4
      go_wp2_with (at_builtin; refine wpList_app_ev1 rfl _ _ rfl (.slice ea es.length ec) es rfl ((unhide HG3).e.next (allocB _ _)) wc.heap.size rfl ⟨4, dirOf p⟩ (one_newE wc 4 (dirOf p)) (by omega) ?_)
      intro a4 c4 w4 ho4 hg4 hl4
      obtain ⟨m0, m1, m3, g4, t4⟩ := unhide K4 w4 a4 c4 ho4 hg4 (by simpa using hl4)
      have HG4 := hide g4
      have HT4 := hide t4
      clear ho4 hg4 hl4 g4 t4
      go_wp2_with fail
      go_end0
      exact ⟨rfl, _, unhide HG4, unhide HT4⟩

end Go.Proofs.YtalnmhgedfgooaaGreatDoor

namespace Go.Proofs.YtalnmhgedfgooaaGreatDoor
open Go.RowKit

theorem wpList_app_nd1 {w : World} {ops : Array Oper} {rest : List Oper} {o : Oper} {a : Act} {Q : Exit → Act → World → Prop} (hgd : o.guard = none) (s x : Operand)
    (ho : o.op = .call { callee := .builtin .append, args := #[s, x], argTypes := #[22, 22] })
    (v : Value) (ns : List Nd) (hs : a.eval s = v) (hown : OwnS w 0 v ns) (q : Nat) (hx : a.eval x = .slice (some ⟨q, 0, none⟩) 1 1) (t : Nd) (hnews : OneR w q t) (hl : ns.length ≤ 100000)
    (h : ∀ a' c' w', OwnS w' 0 (.slice a' (ns.length + 1) c') (ns ++ [t]) → w.grownBy w' v.ownBlock → ((Value.slice a' (ns.length + 1) c').ownBlock = v.ownBlock ∨ (Value.slice a' (ns.length + 1) c').ownBlock = some w.heap.size) → wpList Tryz.prog ops Q rest (a.put o.dst (.slice a' (ns.length + 1) c')) w') :
    wpList Tryz.prog ops Q (o :: rest) a w := by
  refine wpList_plain hgd fun K hK => ?_
  obtain ⟨i0, hi0, hz0, hz1, hz2⟩ := ninfo
  obtain ⟨v', w', hr, h2, h3, _, h5⟩ := run_append_own_at (P := Tryz.prog) w 0 22 o.type 46 i0 _ 9 88 Tryz.underlying22 hi0 hz0 hz1 hz2 rfl (by decide) v ns.length (cellsL ns) hown.row ⟨q, 0, none⟩ 1 1 (ncells t) rfl (one_news hnews) (Lay.one t) (by simp only [maxLen]; omega) (by omega) (Nat.zero_le _)
  have h2' : OwnS w' 0 v' (ns ++ [t]) := OwnS.of_row (by rw [List.length_append, cellsL_snoc]; exact h2)
  obtain ⟨a', c', rfl, _⟩ := h2'.slice
  rw [List.length_append, List.length_singleton] at h2' hr h5
  unfold Oper.wp execOp
  simp only [ho, resolve, invoke, builtin, Sem.run_bind, Sem.run_pure, Result.andThen_ok, List.map_toArray, List.map_cons, List.map_nil, hs, hx, hr]
  exact hK _ _ (h a' c' w' h2' h3 h5)
theorem one_newN2 (w : World) (o : Obj) (n : Nd) : OneR ((w.alloc o).alloc (.cells #[.string ⟨n.p.toArray⟩, .string ⟨n.d.toArray⟩, .int .i64 n.c, .int .i64 n.m, .int .i64 n.q, .int .i64 n.v, .int .i64 n.k, .int .i64 n.o, .int .i64 n.n] 46)) (w.heap.size + 1) n := by
  have h := one_newN (w.alloc o) n
  rw [show (w.alloc o).heap.size = w.heap.size + 1 by simp] at h
  exact h
theorem drop_snoc {ns : List Nd} {k : Nat} {x : Nd} (p : List UInt8) (h : ns[k]? = some x) : dropN (ns.take (k + 1)) p = dropN (ns.take k) p ++ (if x.p = p then [] else [x]) := by
  rw [List.take_add_one, h]
  simp only [dropN, Option.toList_some, List.filter_append, List.filter_cons, List.filter_nil]
  by_cases e : x.p = p <;> simp [e]
theorem set_size (w : World) (a : Addr) (v : Value) : (w.setCell a v).heap.size = w.heap.size := by simp [World.setCell]
theorem one_newE2 (w : World) (a : Addr) (v : Value) (k : Int) (p : List UInt8) : OneR ((w.setCell a v).alloc (.cells #[.int .i64 k, .string ⟨p.toArray⟩] 91)) w.heap.size (⟨k, p⟩ : Ev) := by
  have h := one_newE (w.setCell a v) k p
  rw [set_size] at h
  exact h
/-- a row that grows at or behind block B -/
theorem grows_on {α : Type} [Lay α] {w W V : World} {v v' : Value} {xs ys : List α} (h : OwnS W w.heap.size v xs) (hb : Below w.heap.size w W) (ho : OwnS V 0 v' ys) (hg : W.grownBy V v.ownBlock) (hl : v'.ownBlock = v.ownBlock ∨ v'.ownBlock = some W.heap.size) : OwnS V w.heap.size v' ys ∧ Below w.heap.size w V := by
  have hab : ∀ k, v.ownBlock = some k → w.heap.size ≤ k := by
    rcases h with ⟨rfl, _⟩ | ⟨g, cap, rfl, h1, _⟩
    · intro k hk; cases hk
    · intro k hk; simp only [Value.ownBlock, Option.some.injEq] at hk; omega
  refine ⟨?_, hb.grown hg hb.size hab⟩
  have hk : ∀ k, v'.ownBlock = some k → w.heap.size ≤ k := by
    intro k hk
    rcases hl with e | e
    · rw [e] at hk; exact hab k hk
    · rw [e] at hk; cases hk; exact hb.size
  rcases ho with h0 | ⟨g, cap, rfl, _, h0⟩
  · exact .inl h0
  · exact .inr ⟨g, cap, rfl, hk g rfl, h0⟩

set_option maxRecDepth 20000 in
set_option maxHeartbeats 4000000 in
theorem rgone_any (F : Nat → Prop) (bo be bx bp : Nat) (z : Int) (vn vs ve : Value) (ns A B A' B' : List Nd) (n u : Nd) (ss : List Int) (es : List Ev) (p : List UInt8) (xz : Int) (w : World)
    (h : RG w F bo be z vn vs ve ns ss es) (hF : ∀ k, w.heap.size ≤ k → F k) (hx : w.cell? ⟨bx, 0, none⟩ = some (.int .i64 xz)) (hxl : bx < w.heap.size) (hxF : ¬ F bx)
    (hpc : w.cell? ⟨bp, 0, none⟩ = some (.func (.func 55) #[] #[.pointer (some ⟨bo, 0, none⟩), .pointer (some ⟨bx, 0, none⟩), .pointer (some ⟨be, 0, none⟩)])) (hpl : bp < w.heap.size) (hpF : ¬ F bp)
    (T : NThere ns A n B p) (U : NThere (A ++ B) A' u B' (dirOf p)) (hl : ns.length ≤ 400) (hk : 0 ≤ u.k ∧ u.k ≤ 4294967296) (hn : 0 ≤ u.n ∧ u.n ≤ 1000) (hp : p.length ≤ 1048576) (hes : es.length ≤ 99998) :
    Calls Tryz.prog 56 #[.string ⟨p.toArray⟩, .pointer (some ⟨bo, 0, none⟩), .pointer (some ⟨be, 0, none⟩), .pointer (some ⟨bp, 0, none⟩)] w fun e w' => e = .returned (.tuple #[]) ∧ ∃ vn' ve', RG w' F bo be z vn' vs ve' (rmN xz ns p) ss (es ++ [⟨2, p⟩, ⟨4, dirOf p⟩]) ∧ Touch F w w' := by
  obtain ⟨g, cap, rfl, hr, hgo, hge, hFg⟩ := h.nrow (by rw [T.eq]; simp)
  have HR := hide (fun W (hW : Below w.heap.size w W) => (hr.next hW).row)
  have hgl := hr.lt
  have HG := hide h
  have HF := hide hF
  have HX := hide (fun W (hW : Touch F w W) => (show W.cell? ⟨bx, 0, none⟩ = some (.int .i64 xz) from (World.cell?_of_block (w := w) (a := ⟨bx, 0, none⟩) (hW.block bx hxl hxF)).trans hx))
  have HP := hide (fun W (hW : Touch F w W) => (show W.cell? ⟨bp, 0, none⟩ = _ from (World.cell?_of_block (w := w) (a := ⟨bp, 0, none⟩) (hW.block bp hpl hpF)).trans hpc))
  have hd := T.drop
  have HRM : Hid (rmN xz ns p = A' ++ bump xz (-1) u :: B') := hide (by rw [rmN, hd]; exact U.bump xz (-1))
  have hlAB : (A ++ B).length ≤ 400 := by have := T.eq; rw [this] at hl; simp at hl ⊢; omega
  have CP := hide (fun W vn2 ve2 es2 (hR : RG W F bo be z vn2 vs ve2 (A ++ B) ss es2) (hW : Touch F w W) (he : es2.length ≤ 99999) => rparent_any F bo be bx z vn2 vs ve2 (A ++ B) A' B' u ss es2 p (-1) xz W hR (fun k hk => hF k (by have := hW.size; omega)) (unhide HX W hW) (by have := hW.size; omega) hxF U hlAB hk hn ⟨by omega, by omega⟩ hp he)
  have HD := hide hd
  have c1 := h.c1
  have hbo := h.lo
  have hoe := h.oe
  have hxo : bx ≠ bo := fun e => hxF (e ▸ h.fo)
  clear h hr hF hx hpc T U hd
  go_enter Tryz.func56, Tryz.ntmps56
  go_wp2_with fail
  go_loopg [5, 11] ns.length (fun kx s5 s11 wr => ∃ (k : Nat) (L : List Nd) (la : Option Addr) (lc : Nat), s11 = .int .i64 k ∧ s5 = .slice la L.length lc ∧ k ≤ ns.length ∧ ns.length - k ≤ kx ∧ Hid (dropN (ns.take k) p = L) ∧ Hid (OwnS wr w.heap.size (.slice la L.length lc) L) ∧ Hid (Below w.heap.size w wr))
  case atStart => exact ⟨0, [], none, 0, rfl, rfl, Nat.zero_le _, Nat.le_refl _, hide rfl, hide (.inl ⟨rfl, rfl⟩), hide (Below.refl _ _)⟩
  case round =>
    obtain ⟨k, L, la, lc, rfl, rfl, hk', hg, hL, hO, hB⟩ := hrel
    by_cases hlt : k < ns.length
    · obtain ⟨x, hx⟩ : ∃ x, ns[k]? = some x := ⟨_, List.getElem?_eq_getElem hlt⟩
      have q := unhide HR wr (unhide hB)
      have d0 := q.n0 hx
      have d1 := q.n1 hx
      have d2 := q.n2 hx
      have d3 := q.n3 hx
      have d4 := q.n4 hx
      have d5 := q.n5 hx
      have d6 := q.n6 hx
      have d7 := q.n7 hx
      have d8 := q.n8 hx
      simp only [Nat.zero_add] at d0 d1 d2 d3 d4 d5 d6 d7 d8
      have hgw : g < wr.heap.size := Nat.lt_of_lt_of_le hgl (unhide hB).size
      have hLl : L.length ≤ 100000 := by
        have h1 : (dropN (ns.take k) p).length ≤ (ns.take k).length := List.length_filter_le _ _
        rw [unhide hL] at h1
        have h2 : (ns.take k).length ≤ k := by simp; omega
        omega
      have hds := drop_snoc p hx
      rw [unhide hL] at hds
      by_cases hxp : x.p = p
      · have hxb : (x.p == p) = true := by simpa using hxp
        rw [if_pos hxp, List.append_nil] at hds
        have HDS := hide hds
        have HO1 := hide ((unhide hO).next (allocB wr (.cells #[.string ⟨x.p.toArray⟩, .string ⟨x.d.toArray⟩, .int .i64 x.c, .int .i64 x.m, .int .i64 x.q, .int .i64 x.v, .int .i64 x.k, .int .i64 x.o, .int .i64 x.n] 46)))
        have HB1 := hide (nnext (unhide hB) (allocB wr (.cells #[.string ⟨x.p.toArray⟩, .string ⟨x.d.toArray⟩, .int .i64 x.c, .int .i64 x.m, .int .i64 x.q, .int .i64 x.v, .int .i64 x.k, .int .i64 x.o, .int .i64 x.n] 46)))
        clear q hx hds hxp
        go_wp2_with fail
        go_roundg (ns.length - (k + 1))
        case measure => omega
        case rel => exact ⟨k + 1, L, la, lc, rfl, rfl, by omega, Nat.le_refl _, HDS, HO1, HB1⟩
      · have hxb : (x.p == p) = false := by simpa using hxp
        rw [if_neg hxp] at hds
        have HDS := hide hds
        have HO1 := hide (((unhide hO).next (allocB wr (.cells #[.string ⟨x.p.toArray⟩, .string ⟨x.d.toArray⟩, .int .i64 x.c, .int .i64 x.m, .int .i64 x.q, .int .i64 x.v, .int .i64 x.k, .int .i64 x.o, .int .i64 x.n] 46))).next (allocB _ (.cells #[.string ⟨x.p.toArray⟩, .string ⟨x.d.toArray⟩, .int .i64 x.c, .int .i64 x.m, .int .i64 x.q, .int .i64 x.v, .int .i64 x.k, .int .i64 x.o, .int .i64 x.n] 46)))
        have HB1 := hide (nnext (nnext (unhide hB) (allocB wr (.cells #[.string ⟨x.p.toArray⟩, .string ⟨x.d.toArray⟩, .int .i64 x.c, .int .i64 x.m, .int .i64 x.q, .int .i64 x.v, .int .i64 x.k, .int .i64 x.o, .int .i64 x.n] 46))) (allocB _ (.cells #[.string ⟨x.p.toArray⟩, .string ⟨x.d.toArray⟩, .int .i64 x.c, .int .i64 x.m, .int .i64 x.q, .int .i64 x.v, .int .i64 x.k, .int .i64 x.o, .int .i64 x.n] 46)))
        clear q hx hds hxp
        go_wp2_with (at_builtin; refine wpList_app_nd1 rfl _ _ rfl (.slice la L.length lc) L rfl ((unhide HO1).lower (Nat.zero_le _)) (wr.heap.size + 1) rfl x (one_newN2 wr _ x) hLl ?_)
        intro a3 c3 w3 ho3 hg3 hl3
        obtain ⟨o3, b3⟩ := grows_on (unhide HO1) (unhide HB1) ho3 hg3 (by simpa using hl3)
        have HO3 := hide o3
        have HB3 := hide b3
        clear ho3 hg3 hl3 o3 b3
        go_wp2_with fail
        go_roundg (ns.length - (k + 1))
        case measure => omega
        case rel => exact ⟨k + 1, L ++ [x], a3, c3, rfl, by rw [List.length_append]; rfl, by omega, Nat.le_refl _, HDS, by rw [List.length_append]; exact HO3, HB3⟩
    · obtain rfl : k = ns.length := by omega
      have hL2 := unhide hL
      rw [List.take_length, unhide HD] at hL2
      rw [hL2] at CP hlAB
      clear hL2 hL
      have gw := (unhide HG).next (unhide hB)
      have k1 := gw.c1
      have z1 := gw.fzo 1
      have ke := gw.ce
      have hbw : bo < wr.heap.size := gw.lo
      have hew : be < wr.heap.size := gw.le
      have hws := (unhide hB).size
      have HG1 := hide ((unhide HG).nd (unhide HF) (unhide hB) (unhide hO))
      have HT1 := hide ((Touch.of_below (F := F) (unhide hB)).trans (Touch.set (a := ⟨bo, 1, none⟩) (unhide HG).fo (.slice la L.length lc)))
      obtain ⟨ea, ec, rfl, _⟩ := (unhide HG).e.slice
      have heo : be ≠ bo := hoe.symm
      have hpe : bp ≠ be := fun e => hpF (e ▸ (unhide HG).fv)
      have K4 : Hid (∀ (w4 : World) (a4 : Option Addr) (c4 : Nat), OwnS w4 0 (.slice a4 (es.length + 1) c4) (es ++ [⟨2, p⟩]) → ((wr.setCell ⟨bo, 1, none⟩ (.slice la L.length lc)).alloc (.cells #[.int .i64 2, .string ⟨p.toArray⟩] 91)).grownBy w4 (Value.slice ea es.length ec).ownBlock → ((Value.slice a4 (es.length + 1) c4).ownBlock = (Value.slice ea es.length ec).ownBlock ∨ (Value.slice a4 (es.length + 1) c4).ownBlock = some ((wr.setCell ⟨bo, 1, none⟩ (.slice la L.length lc)).alloc (.cells #[.int .i64 2, .string ⟨p.toArray⟩] 91)).heap.size) →
          w4.cell? ⟨be, 0, none⟩ = some (.slice ea es.length ec) ∧ w4.frozen? ⟨be, 0, none⟩ = false ∧ w4.cell? ⟨bp, 0, none⟩ = some (.func (.func 55) #[] #[.pointer (some ⟨bo, 0, none⟩), .pointer (some ⟨bx, 0, none⟩), .pointer (some ⟨be, 0, none⟩)]) ∧ be < w4.heap.size ∧ bp < w4.heap.size ∧ RG (w4.setCell ⟨be, 0, none⟩ (.slice a4 (es.length + 1) c4)) F bo be z (.slice la L.length lc) vs (.slice a4 (es.length + 1) c4) L ss (es ++ [⟨2, p⟩]) ∧ Touch F w (w4.setCell ⟨be, 0, none⟩ (.slice a4 (es.length + 1) c4))) := hide (by
        intro w4 a4 c4 ho4 hg4 hl4
        have gx := (unhide HG1).next (allocB _ (.cells #[.int .i64 2, .string ⟨p.toArray⟩] 91))
        have nbe : some be ≠ (Value.slice ea es.length ec).ownBlock := fun e => (gx.ke be e.symm).2.2 rfl
        have t4 : Touch F w w4 := ((unhide HT1).trans (Touch.of_below (allocB _ (.cells #[.int .i64 2, .string ⟨p.toArray⟩] 91)))).trans (Touch.of_grown hg4 (fun k e => (gx.ke k e).1))
        refine ⟨hg4.cell gx.ce nbe, (World.frozen?_of_block (hg4.block be gx.le nbe)).trans (gx.fze 0), unhide HP w4 t4, Nat.lt_of_lt_of_le gx.le hg4.size, Nat.lt_of_lt_of_le hpl t4.size, gx.ev (fun k hk => unhide HF k (by simp [World.setCell] at hk; omega)) hg4 ho4 hl4, t4.trans (Touch.set (a := ⟨be, 0, none⟩) gx.fv _)⟩)
      clear gw
      go_wp2_with (at_builtin; refine wpList_app_ev1 rfl _ _ rfl (.slice ea es.length ec) es rfl ((unhide HG1).e.next (allocB _ _)) wr.heap.size rfl ⟨2, p⟩ (one_newE2 wr _ _ 2 p) (by omega) ?_)
      intro a4 c4 w4 ho4 hg4 hl4
      obtain ⟨m0, m1, m2, m3, m4, g4, t4⟩ := unhide K4 w4 a4 c4 ho4 hg4 (by simpa [World.setCell] using hl4)
      have HG4 := hide g4
      have HT4 := hide t4
      clear ho4 hg4 hl4 g4 t4
      go_wp2_with fail
      refine (unhide CP _ _ _ _ (unhide HG4) (unhide HT4) (by simp; omega)).mono ?_
      rintro e w5 ⟨rfl, ve5, g5, t5⟩
      have HG5 := hide g5
      have HT5 := hide ((unhide HT4).trans t5)
      clear g5 t5
      go_wp2_with fail
      go_end0
      refine ⟨rfl, .slice la L.length lc, ve5, ?_, unhide HT5⟩
      rw [unhide HRM]
      have := unhide HG5
      rw [List.append_assoc] at this
      exact this

end Go.Proofs.YtalnmhgedfgooaaGreatDoor
