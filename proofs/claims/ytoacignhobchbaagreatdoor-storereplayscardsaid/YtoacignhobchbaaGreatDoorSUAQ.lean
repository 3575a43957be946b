/-
  What aviarykeep's kept, sameWatches (of alike ones) and tells answer: the walks.
  What aviaryref's Fire, SameNotes, SameWatches (of alike ones) and aviarylaw's watches answer; the law WatchFires: the walks.
  That an empty disk comes up; aviarylaw.boots and aviarykeep.boots return true: the walks.
  A server in a box: what stays, what is stored over it.
  What wire.Decode answers, for every text: the walk.
  What aviarykeep's logOf, laid and logs answer: the walks.
  aviarykeep.boots and aviarykeep.taken: the walks; a transaction more on a log, safe or not, in a row of its own.
-/
import Derived.Test.YtoacignhobchbaaGreatDoorSUAG
import Derived.Laws.StructEq
import Derived.Deep.QuietTactic
import Derived.Test.YtoacignhobchbaaGreatDoorSUAJ
import Derived.Test.YtoacignhobchbaaGreatDoorSUX
import Derived.Test.YtoacignhobchbaaGreatDoorSUAH
import Derived.Test.YtoacignhobchbaaGreatDoorSUU
import Derived.Test.YtoacignhobchbaaGreatDoorSUC
import Derived.Lib.ConvBytes
import Derived.Lib.Strings
import Derived.Test.YtoacignhobchbaaGreatDoorSUAC
import Derived.Test.YtoacignhobchbaaGreatDoorSUAL
import Derived.Test.YtoacignhobchbaaGreatDoorSUAO
import Derived.Test.YtoacignhobchbaaGreatDoorSUAI
import Derived.Test.YtoacignhobchbaaGreatDoorSUK
import Derived.Test.YtoacignhobchbaaGreatDoorSUAM
namespace Go.Proofs.YtoacignhobchbaaGreatDoor
open Go.RowKit
set_option maxRecDepth 10000 in

set_option maxHeartbeats 1000000 in
theorem kept_some (a : Addr) (cap : Nat) (ws : List Wa) (w : World) (hl : ws.length * 32 ≤ 140737488355328) (hc : ∀ j u, (cellsL ws)[j]? = some u → w.cell? (a.add j) = some u) :
    Calls Tryz.prog 7 #[.slice (some a) ws.length cap] w fun e w' => ∃ v', e = .returned v' ∧ OwnS w' w.heap.size v' ws ∧ Below w.heap.size w w' := by
  obtain ⟨i0, hi0, hz0, hz1, hz2⟩ := winfo
  have HR := hide hc
  clear hc
  go_enter Tryz.func7, Tryz.ntmps7
  go_wp2_with (at_builtin; refine wpList_append_own _ rfl _ _ 23 rfl w.heap.size 72 i0 _ 3 32 Tryz.underlying23 hi0 hz0 hz1 hz2 rfl (by decide) _ 0 [] rfl (World.ownsRow_nil _ _ _ _) a ws.length cap (cellsL ws) rfl (cellsL_length ws) ?qc2 (cellsL_one ws) ?qc4 ?qc5 ?qc6 ?_)
  case qc2 => exact unhide HR
  case qc4 => simp only [maxLen]; omega
  case qc5 => omega
  case qc6 => exact Nat.le_refl _
  intro v' w1 hown hgrow _
  have HO : Hid (OwnS w1 w.heap.size v' ws) := hide (OwnS.of_row (α := Wa) hown)
  have HB : Hid (Below w.heap.size w w1) := hide (grownO hgrow _ (Nat.le_refl _) (by intro k hk; cases hk))
  clear hown hgrow
  go_wp2
  go_ret
  exact ⟨_, rfl, unhide HO, unhide HB⟩
set_option maxRecDepth 10000 in
set_option maxHeartbeats 400000 in
theorem kept_nil (cap : Nat) (w : World) :
    Calls Tryz.prog 7 #[.slice none 0 cap] w fun e w' => ∃ v', e = .returned v' ∧ OwnS w' w.heap.size v' ([] : List Wa) ∧ Below w.heap.size w w' := by
  go_enter Tryz.func7, Tryz.ntmps7
  go_wp2_with fail
  go_ret
  exact ⟨_, rfl, .inl ⟨rfl, rfl⟩, Below.refl _ _⟩
theorem kept_any (v : Value) (ws : List Wa) (w : World) (hv : SeqV w v ws) (hl : ws.length * 32 ≤ 140737488355328) :
    Calls Tryz.prog 7 #[v] w fun e w' => ∃ v', e = .returned v' ∧ OwnS w' w.heap.size v' ws ∧ Below w.heap.size w w' := by
  rcases hv with ⟨a, cap, rfl, rfl, _⟩ | ⟨b, off, cap, rfl, _, _, hb, _, hr⟩
  · cases a with
    | none => exact kept_nil cap w
    | some a => exact kept_some a cap [] w (by simp) (fun j u h => by simp [cellsL_nil] at h)
  · exact kept_some ⟨b, off, none⟩ cap ws w hl (fun j u h => by rw [Addr.add_lit]; exact hr j u h)

set_option maxRecDepth 20000 in
set_option maxHeartbeats 2000000 in
theorem ksameW_any (va vb : Value) (ws : List Wa) (w : World) (ha : SeqV w va ws) (hb : SeqV w vb ws) (hl : ws.length ≤ 140737488355328) :
    Calls Tryz.prog 11 #[va, vb] w fun e w' => e = .returned (.bool true) ∧ Below w.heap.size w w' := by
  have K : ∀ (v : Value), SeqV w v ws → ∀ W, Below w.heap.size w W → ∀ (i : Nat) (x : Wa), ws[i]? = some x → ∃ b off c, v = .slice (some ⟨b, off, none⟩) ws.length c ∧ b < w.heap.size ∧ RowAt W b off (cellsL ws) := by
    intro v hv W hW i x hx
    obtain ⟨b, off, c, e, hb, hr, _, _⟩ := seq_row hv (by intro h0; rw [h0] at hx; simp at hx)
    exact ⟨b, off, c, e, hb, hr.kept hW hb⟩
  have K1 := hide (K va ha)
  have K2 := hide (K vb hb)
  obtain ⟨aa, ac, rfl⟩ := seq_slice ha
  obtain ⟨ba, bc, rfl⟩ := seq_slice hb
  clear ha hb K
  go_enter Tryz.func11, Tryz.ntmps11
  go_wp2_with fail
  go_loopg [5] ws.length (fun kx s5 wr => ∃ k : Nat, s5 = .int .i64 k ∧ k ≤ ws.length ∧ ws.length - k ≤ kx ∧ Hid (Below w.heap.size w wr))
  case atStart => exact ⟨0, rfl, Nat.zero_le _, Nat.le_refl _, hide (Below.refl _ _)⟩
  case round =>
    obtain ⟨k, rfl, hk, hg, hB⟩ := hrel
    by_cases hlt : k < ws.length
    · obtain ⟨x, hx⟩ : ∃ x, ws[k]? = some x := ⟨_, List.getElem?_eq_getElem hlt⟩
      obtain ⟨b1, o1, cc1, he, hb1, q1⟩ := unhide K1 wr (unhide hB) k x hx
      simp only [Value.slice.injEq] at he
      obtain ⟨rfl, _, rfl⟩ := he
      obtain ⟨b2, o2, cc2, he, hb2, q2⟩ := unhide K2 wr (unhide hB) k x hx
      simp only [Value.slice.injEq] at he
      obtain ⟨rfl, _, rfl⟩ := he
      have d0 := q1.w0 hx
      have d1 := q1.w1 hx
      have d2 := q1.w2 hx
      have r0 := q2.w0 hx
      have r1 := q2.w1 hx
      have r2 := q2.w2 hx
      have hlti : (k : Int) < (ws.length : Int) := by omega
      clear q1 q2 hx
      go_wp2_with fail
      go_region
      go_wp2_with fail
      go_roundg (ws.length - (k + 1))
      case measure => omega
      case rel => exact ⟨k + 1, rfl, by omega, Nat.le_refl _, hide (nnext (unhide hB) (Below.refl _ _).drew)⟩
    · obtain rfl : k = ws.length := by omega
      go_wp2_with fail
      go_ret
      exact ⟨rfl, unhide hB⟩

end Go.Proofs.YtoacignhobchbaaGreatDoor

namespace Go.Proofs.YtoacignhobchbaaGreatDoor
open Go.RowKit

theorem RowAt.grown {W V : World} {b off : Nat} {cs : List Value} {r : Option Nat} (h : RowAt W b off cs) (hg : W.grownBy V r) (hr : some b ≠ r) : RowAt V b off cs := fun j v hj => hg.cell (h j v hj) hr
theorem SeqV.grown {α : Type} [Lay α] {W V : World} {v : Value} {xs : List α} {r : Option Nat} (h : SeqV W v xs) (hg : W.grownBy V r) (hr : ∀ k, v.ownBlock = some k → some k ≠ r) : SeqV V v xs := by
  rcases h with h | ⟨b, off, cap, rfl, h1, h2, h3, h0, h4⟩
  · exact .inl h
  · exact .inr ⟨b, off, cap, rfl, h1, h2, Nat.lt_of_lt_of_le h3 hg.size, h0, h4.grown hg (hr b rfl)⟩
/-- the document's Fire within one event -/
structure FI (w wq : World) (m be : Nat) (e : Ev) (lv : Value) (L : List Wa) (nv : Value) (N : List Nt) (fv : Value) (F : List Wa) : Prop where
  n : OwnS wq w.heap.size nv N
  f : OwnS wq m fv F
  nf : ∀ k, nv.ownBlock = some k → fv.ownBlock ≠ some k ∧ k ≠ be
  bm : be < m
  rd : ∀ (i : Nat) (x : Wa), L[i]? = some x → ∃ b off cap, lv = .slice (some ⟨b, off, none⟩) L.length cap ∧ b < m ∧ nv.ownBlock ≠ some b ∧ RowAt wq b off (cellsL L)
  e : OneR wq be e
  b : Below w.heap.size w wq
  wm : w.heap.size ≤ m
  mz : m ≤ wq.heap.size
theorem FI.next {w wq V : World} {m be : Nat} {e : Ev} {lv : Value} {L : List Wa} {nv : Value} {N : List Nt} {fv : Value} {F : List Wa} (h : FI w wq m be e lv L nv N fv F) (hb : Below wq.heap.size wq V) : FI w V m be e lv L nv N fv F :=
  ⟨h.n.next hb, h.f.next hb, h.nf, h.bm, fun i x hx => by
    obtain ⟨b, off, cap, e1, h1, h2, h3⟩ := h.rd i x hx
    exact ⟨b, off, cap, e1, h1, h2, h3.kept hb (Nat.lt_of_lt_of_le h1 h.mz)⟩, (hb.block _ (Nat.lt_of_lt_of_le h.bm h.mz)).trans h.e, nnext h.b hb, h.wm, Nat.le_trans h.mz hb.size⟩
theorem FI.note {w wq V : World} {m be : Nat} {e : Ev} {lv : Value} {L : List Wa} {nv nv' : Value} {N N' : List Nt} {fv : Value} {F : List Wa} (h : FI w wq m be e lv L nv N fv F) (hg : wq.grownBy V nv.ownBlock) (ho : OwnS V 0 nv' N') (hl : nv'.ownBlock = nv.ownBlock ∨ nv'.ownBlock = some wq.heap.size) : FI w V m be e lv L nv' N' fv F := by
  have hmz := h.mz
  have hbm := h.bm
  refine ⟨ownS_base ho (fun k hk => ?_), h.f.grown hg (fun k hk e => (h.nf k e.symm).1 hk), fun k hk => ?_, h.bm, fun i x hx => ?_, (hg.block _ (by omega) (fun e => (h.nf _ e.symm).2 rfl)).trans h.e, h.b.grown hg h.b.size (ownS_above h.n), h.wm, Nat.le_trans h.mz hg.size⟩
  · rcases hl with e | e
    · rw [e] at hk; exact ownS_above h.n k hk
    · rw [e] at hk; cases hk; exact h.b.size
  · rcases hl with e | e
    · rw [e] at hk; exact h.nf k hk
    · rw [e] at hk; cases hk
      exact ⟨fun e' => by have := h.f.low _ e'; omega, by omega⟩
  · obtain ⟨b, off, cap, e1, h1, h2, h3⟩ := h.rd i x hx
    refine ⟨b, off, cap, e1, h1, ?_, h3.grown hg (fun e => h2 e.symm)⟩
    rcases hl with e | e
    · rw [e]; exact h2
    · rw [e]; intro e'; cases e'; omega
theorem FI.left {w wq V : World} {m be : Nat} {e : Ev} {lv : Value} {L : List Wa} {nv : Value} {N : List Nt} {fv fv' : Value} {F F' : List Wa} (h : FI w wq m be e lv L nv N fv F) (hg : wq.grownBy V fv.ownBlock) (ho : OwnS V 0 fv' F') (hl : fv'.ownBlock = fv.ownBlock ∨ fv'.ownBlock = some wq.heap.size) : FI w V m be e lv L nv N fv' F' := by
  have hmz := h.mz
  have hbm := h.bm
  have hab := ownS_above h.f
  refine ⟨h.n.grown hg (fun k hk e => (h.nf k hk).1 e.symm), ownS_base ho (fun k hk => ?_), fun k hk => ⟨?_, (h.nf k hk).2⟩, h.bm, fun i x hx => ?_, (hg.block _ (by omega) (fun e => by have := hab _ e.symm; omega)).trans h.e, h.b.grown hg h.b.size (fun k hk => Nat.le_trans h.wm (hab k hk)), h.wm, Nat.le_trans h.mz hg.size⟩
  · rcases hl with e | e
    · rw [e] at hk; exact hab k hk
    · rw [e] at hk; cases hk; exact h.mz
  · rcases hl with e | e
    · rw [e]; exact (h.nf k hk).1
    · rw [e]; intro e'; cases e'
      have := h.n.low _ hk
      omega
  · obtain ⟨b, off, cap, e1, h1, h2, h3⟩ := h.rd i x hx
    exact ⟨b, off, cap, e1, h1, h2, h3.grown hg (fun e => by have := hab _ e.symm; omega)⟩
end Go.Proofs.YtoacignhobchbaaGreatDoor

namespace Go.Proofs.YtoacignhobchbaaGreatDoor
open Go.RowKit
/-- what an empty disk comes up as -/
noncomputable def svUp (id : Int) : Sv := ⟨true, [logF []], id, epochD [], [], 0, trNew, []⟩
theorem rec_empty : GivesW 27 (fun x => #[x]) [] [] [logF []] 0 :=
  wrec_gap_any [] [logF []] 0 (fun v W hv => by
    have h := read_no v [] logN 7 W hv (good_slim good_none) (.inr ⟨good_none, ⟨[], [], gap_none _⟩, rfl⟩)
    exact h)
    (gives_own fun v W hv => write_new v [] [] [] logN [] W hv (good_slim good_none) good_none named_log (by decide) (gap_none _) (by decide))
theorem boot_none (id : Int) (h0 : 0 ≤ id) (h1 : id < 3) (w : World) : Calls Tryz.prog 15 #[.int .i64 id, .agg #[.slice none 0 0]] w (GivesV w (svUp id) 0) :=
  sboot_ok (.slice none 0 0) [] [logF []] [] id w (DiskV.nil w) (by intro f hf; simp at hf) h0 h1 rec_empty

end Go.Proofs.YtoacignhobchbaaGreatDoor

namespace Go.Proofs.YtoacignhobchbaaGreatDoor
open Go.RowKit

/-- a server in a box that was made behind the world w -/
def InBox (w W : World) (k : Nat) (s : Sv) : Prop :=
  ∃ ad nd cd al nl cl an nn cn ai ni ci aw nw cw, Box10 W k s.up (.slice ad nd cd) s.id s.ep (.slice al nl cl) s.dn s.tr.z (.slice an nn cn) (.slice ai ni ci) (.slice aw nw cw) ∧
    SvV W (.agg #[.bool s.up, .slice ad nd cd, .int .i64 s.id, .int .i64 s.ep, .slice al nl cl, .int .i64 s.dn, .int .i64 s.tr.z, .slice an nn cn, .slice ai ni ci, .slice aw nw cw]) s ∧ Below w.heap.size w W
theorem InBox.next {w W V : World} {k : Nat} {s : Sv} (h : InBox w W k s) (hb : Below W.heap.size W V) : InBox w V k s := by
  obtain ⟨ad, nd, cd, al, nl, cl, an, nn, cn, ai, ni, ci, aw, nw, cw, h1, h2, h3⟩ := h
  exact ⟨ad, nd, cd, al, nl, cl, an, nn, cn, ai, ni, ci, aw, nw, cw, h1.next hb, h2.next hb, nnext h3 hb⟩
theorem inbox_new {w W : World} {s : Sv} {ad al an ai aw : Option Addr} {nd cd nl cl nn cn ni ci nw cw : Nat} (hb : Below w.heap.size w W) (h : SvV W (.agg #[.bool s.up, .slice ad nd cd, .int .i64 s.id, .int .i64 s.ep, .slice al nl cl, .int .i64 s.dn, .int .i64 s.tr.z, .slice an nn cn, .slice ai ni ci, .slice aw nw cw]) s) :
    InBox w (W.alloc (.cells #[.bool s.up, .slice ad nd cd, .int .i64 s.id, .int .i64 s.ep, .slice al nl cl, .int .i64 s.dn, .int .i64 s.tr.z, .slice an nn cn, .slice ai ni ci, .slice aw nw cw] 36)) W.heap.size s :=
  ⟨ad, nd, cd, al, nl, cl, an, nn, cn, ai, ni, ci, aw, nw, cw, Box10.new W s.up s.id s.ep s.dn s.tr.z _ _ _ _ _, h.alloc _, nnext hb (allocB _ _)⟩
theorem box10_put10 {W : World} {k : Nat} {up0 : Bool} {id0 ep0 dn0 z0 : Int} {vd0 vl0 vn0 vs0 vw0 : Value} (h : Box10 W k up0 vd0 id0 ep0 vl0 dn0 z0 vn0 vs0 vw0) (up : Bool) (id ep dn z : Int) (vd vl vn vs vw : Value) :
    Box10 (put10 W k (.bool up) vd (.int .i64 id) (.int .i64 ep) vl (.int .i64 dn) (.int .i64 z) vn vs vw) k up vd id ep vl dn z vn vs vw := by
  unfold Box10 at *
  unfold put10
  have e0 : ((W).setCell ⟨k, 0, none⟩ (.bool up)).heap[k]? = some (.cells #[.bool up, vd0, .int .i64 id0, .int .i64 ep0, vl0, .int .i64 dn0, .int .i64 z0, vn0, vs0, vw0] 36 (0, 0)) := block_set (j := 0) (.bool up) h
  have e1 : (((W).setCell ⟨k, 0, none⟩ (.bool up)).setCell ⟨k, 1, none⟩ (vd)).heap[k]? = some (.cells #[.bool up, vd, .int .i64 id0, .int .i64 ep0, vl0, .int .i64 dn0, .int .i64 z0, vn0, vs0, vw0] 36 (0, 0)) := block_set (j := 1) (vd) e0
  have e2 : ((((W).setCell ⟨k, 0, none⟩ (.bool up)).setCell ⟨k, 1, none⟩ (vd)).setCell ⟨k, 2, none⟩ (.int .i64 id)).heap[k]? = some (.cells #[.bool up, vd, .int .i64 id, .int .i64 ep0, vl0, .int .i64 dn0, .int .i64 z0, vn0, vs0, vw0] 36 (0, 0)) := block_set (j := 2) (.int .i64 id) e1
  have e3 : (((((W).setCell ⟨k, 0, none⟩ (.bool up)).setCell ⟨k, 1, none⟩ (vd)).setCell ⟨k, 2, none⟩ (.int .i64 id)).setCell ⟨k, 3, none⟩ (.int .i64 ep)).heap[k]? = some (.cells #[.bool up, vd, .int .i64 id, .int .i64 ep, vl0, .int .i64 dn0, .int .i64 z0, vn0, vs0, vw0] 36 (0, 0)) := block_set (j := 3) (.int .i64 ep) e2
  have e4 : ((((((W).setCell ⟨k, 0, none⟩ (.bool up)).setCell ⟨k, 1, none⟩ (vd)).setCell ⟨k, 2, none⟩ (.int .i64 id)).setCell ⟨k, 3, none⟩ (.int .i64 ep)).setCell ⟨k, 4, none⟩ (vl)).heap[k]? = some (.cells #[.bool up, vd, .int .i64 id, .int .i64 ep, vl, .int .i64 dn0, .int .i64 z0, vn0, vs0, vw0] 36 (0, 0)) := block_set (j := 4) (vl) e3
  have e5 : (((((((W).setCell ⟨k, 0, none⟩ (.bool up)).setCell ⟨k, 1, none⟩ (vd)).setCell ⟨k, 2, none⟩ (.int .i64 id)).setCell ⟨k, 3, none⟩ (.int .i64 ep)).setCell ⟨k, 4, none⟩ (vl)).setCell ⟨k, 5, none⟩ (.int .i64 dn)).heap[k]? = some (.cells #[.bool up, vd, .int .i64 id, .int .i64 ep, vl, .int .i64 dn, .int .i64 z0, vn0, vs0, vw0] 36 (0, 0)) := block_set (j := 5) (.int .i64 dn) e4
  have e6 : ((((((((W).setCell ⟨k, 0, none⟩ (.bool up)).setCell ⟨k, 1, none⟩ (vd)).setCell ⟨k, 2, none⟩ (.int .i64 id)).setCell ⟨k, 3, none⟩ (.int .i64 ep)).setCell ⟨k, 4, none⟩ (vl)).setCell ⟨k, 5, none⟩ (.int .i64 dn)).setCell ⟨k, 6, none⟩ (.int .i64 z)).heap[k]? = some (.cells #[.bool up, vd, .int .i64 id, .int .i64 ep, vl, .int .i64 dn, .int .i64 z, vn0, vs0, vw0] 36 (0, 0)) := block_set (j := 6) (.int .i64 z) e5
  have e7 : (((((((((W).setCell ⟨k, 0, none⟩ (.bool up)).setCell ⟨k, 1, none⟩ (vd)).setCell ⟨k, 2, none⟩ (.int .i64 id)).setCell ⟨k, 3, none⟩ (.int .i64 ep)).setCell ⟨k, 4, none⟩ (vl)).setCell ⟨k, 5, none⟩ (.int .i64 dn)).setCell ⟨k, 6, none⟩ (.int .i64 z)).setCell ⟨k, 7, none⟩ (vn)).heap[k]? = some (.cells #[.bool up, vd, .int .i64 id, .int .i64 ep, vl, .int .i64 dn, .int .i64 z, vn, vs0, vw0] 36 (0, 0)) := block_set (j := 7) (vn) e6
  have e8 : ((((((((((W).setCell ⟨k, 0, none⟩ (.bool up)).setCell ⟨k, 1, none⟩ (vd)).setCell ⟨k, 2, none⟩ (.int .i64 id)).setCell ⟨k, 3, none⟩ (.int .i64 ep)).setCell ⟨k, 4, none⟩ (vl)).setCell ⟨k, 5, none⟩ (.int .i64 dn)).setCell ⟨k, 6, none⟩ (.int .i64 z)).setCell ⟨k, 7, none⟩ (vn)).setCell ⟨k, 8, none⟩ (vs)).heap[k]? = some (.cells #[.bool up, vd, .int .i64 id, .int .i64 ep, vl, .int .i64 dn, .int .i64 z, vn, vs, vw0] 36 (0, 0)) := block_set (j := 8) (vs) e7
  have e9 : (((((((((((W).setCell ⟨k, 0, none⟩ (.bool up)).setCell ⟨k, 1, none⟩ (vd)).setCell ⟨k, 2, none⟩ (.int .i64 id)).setCell ⟨k, 3, none⟩ (.int .i64 ep)).setCell ⟨k, 4, none⟩ (vl)).setCell ⟨k, 5, none⟩ (.int .i64 dn)).setCell ⟨k, 6, none⟩ (.int .i64 z)).setCell ⟨k, 7, none⟩ (vn)).setCell ⟨k, 8, none⟩ (vs)).setCell ⟨k, 9, none⟩ (vw)).heap[k]? = some (.cells #[.bool up, vd, .int .i64 id, .int .i64 ep, vl, .int .i64 dn, .int .i64 z, vn, vs, vw] 36 (0, 0)) := block_set (j := 9) (vw) e8
  exact e9
theorem newZ (w : World) : Box10 (w.alloc (.cells #[.bool false, .slice none 0 0, .int .i64 0, .int .i64 0, .slice none 0 0, .int .i64 0, .int .i64 0, .slice none 0 0, .slice none 0 0, .slice none 0 0] 36)) w.heap.size false (.slice none 0 0) 0 0 (.slice none 0 0) 0 0 (.slice none 0 0) (.slice none 0 0) (.slice none 0 0) := Box10.new w false 0 0 0 0 _ _ _ _ _

set_option maxHeartbeats 1000000 in
/-- a server stored over another one -/
theorem inbox_over {w W : World} {k : Nat} {s : Sv} {ad al an ai aw : Option Addr} {nd cd nl cl nn cn ni ci nw cw B : Nat} {up0 : Bool} {id0 ep0 dn0 z0 : Int} {ad0 al0 an0 ai0 aw0 : Option Addr} {nd0 cd0 nl0 cl0 nn0 cn0 ni0 ci0 nw0 cw0 : Nat} (hb : Below w.heap.size w W) (hk : w.heap.size ≤ k) (hk2 : k < B) (h : SvV W (.agg #[.bool s.up, .slice ad nd cd, .int .i64 s.id, .int .i64 s.ep, .slice al nl cl, .int .i64 s.dn, .int .i64 s.tr.z, .slice an nn cn, .slice ai ni ci, .slice aw nw cw]) s) (hf : Fresh B (.slice ai ni ci))
    (hz : Box10 W k up0 (.slice ad0 nd0 cd0) id0 ep0 (.slice al0 nl0 cl0) dn0 z0 (.slice an0 nn0 cn0) (.slice ai0 ni0 ci0) (.slice aw0 nw0 cw0)) :
    InBox w (put10 W k (.bool s.up) (.slice ad nd cd) (.int .i64 s.id) (.int .i64 s.ep) (.slice al nl cl) (.int .i64 s.dn) (.int .i64 s.tr.z) (.slice an nn cn) (.slice ai ni ci) (.slice aw nw cw)) k s := by
  refine ⟨ad, nd, cd, al, nl, cl, an, nn, cn, ai, ni, ci, aw, nw, cw, box10_put10 hz _ _ _ _ _ _ _ _ _ _, ?_, put10_below hb hk _ _ _ _ _ _ _ _ _ _⟩
  obtain ⟨vd, vl, vn, vs, vw, e, h1, h2, h3, h4, h5⟩ := h
  simp only [Value.agg.injEq, Array.mk.injEq, List.cons.injEq] at e
  obtain ⟨_, rfl, _, _, rfl, _, _, rfl, rfl, rfl, _⟩ := e
  exact put10_new (s := s) hz.dumb h1 h2 h3 h4 (hf.away hk2) h5
theorem seq_empty {W V : World} {v : Value} {xs : List Int} (hx : xs = []) (h : SeqV W v xs) : SeqV V v xs := by
  rcases h with h | ⟨_, _, _, _, _, _, _, h0, _⟩
  · exact .inl h
  · exact absurd hx h0
theorem put10_sv0 {W : World} {k : Nat} (hk : Dumb W k) {up : Bool} {id ep dn z : Int} {ad al an ai aw : Option Addr} {nd cd nl cl nn cn ni ci nw cw : Nat} {v : Value} {s : Sv} (hs : s.tr.ss = []) (h : SvV W v s) :
    SvV (put10 W k (.bool up) (.slice ad nd cd) (.int .i64 id) (.int .i64 ep) (.slice al nl cl) (.int .i64 dn) (.int .i64 z) (.slice an nn cn) (.slice ai ni ci) (.slice aw nw cw)) v s := by
  have one : ∀ {W : World} {j : Nat} {u : Value}, (∀ t, u ≠ .string t) → Dumb W k → SvV W v s → Dumb (W.setCell ⟨k, j, none⟩ u) k ∧ SvV (W.setCell ⟨k, j, none⟩ u) v s := by
    intro W j u hu hk h
    refine ⟨hk.set hu, ?_⟩
    obtain ⟨vd, vl, vn, vs, vw, rfl, h1, h2, h3, h4, h5⟩ := h
    exact ⟨vd, vl, vn, vs, vw, rfl, disk_dumb h1 hk u, log_dumb h2 hk u, nodes_dumb h3 hk u, seq_empty hs h4, watches_dumb h5 hk u⟩
  obtain ⟨k0, h0⟩ := one (j := 0) (u := .bool up) (by simp) hk h
  obtain ⟨k1, h1⟩ := one (j := 1) (u := .slice ad nd cd) (by simp) k0 h0
  obtain ⟨k2, h2⟩ := one (j := 2) (u := .int .i64 id) (by simp) k1 h1
  obtain ⟨k3, h3⟩ := one (j := 3) (u := .int .i64 ep) (by simp) k2 h2
  obtain ⟨k4, h4⟩ := one (j := 4) (u := .slice al nl cl) (by simp) k3 h3
  obtain ⟨k5, h5⟩ := one (j := 5) (u := .int .i64 dn) (by simp) k4 h4
  obtain ⟨k6, h6⟩ := one (j := 6) (u := .int .i64 z) (by simp) k5 h5
  obtain ⟨k7, h7⟩ := one (j := 7) (u := .slice an nn cn) (by simp) k6 h6
  obtain ⟨k8, h8⟩ := one (j := 8) (u := .slice ai ni ci) (by simp) k7 h7
  exact (one (j := 9) (u := .slice aw nw cw) (by simp) k8 h8).2

set_option maxHeartbeats 1000000 in
/-- a server without sessions stored over another one -/
theorem inbox_over0 {w W : World} {k : Nat} {s : Sv} {ad al an ai aw : Option Addr} {nd cd nl cl nn cn ni ci nw cw : Nat} {up0 : Bool} {id0 ep0 dn0 z0 : Int} {ad0 al0 an0 ai0 aw0 : Option Addr} {nd0 cd0 nl0 cl0 nn0 cn0 ni0 ci0 nw0 cw0 : Nat} (hb : Below w.heap.size w W) (hk : w.heap.size ≤ k) (hss : s.tr.ss = []) (h : SvV W (.agg #[.bool s.up, .slice ad nd cd, .int .i64 s.id, .int .i64 s.ep, .slice al nl cl, .int .i64 s.dn, .int .i64 s.tr.z, .slice an nn cn, .slice ai ni ci, .slice aw nw cw]) s)
    (hz : Box10 W k up0 (.slice ad0 nd0 cd0) id0 ep0 (.slice al0 nl0 cl0) dn0 z0 (.slice an0 nn0 cn0) (.slice ai0 ni0 ci0) (.slice aw0 nw0 cw0)) :
    InBox w (put10 W k (.bool s.up) (.slice ad nd cd) (.int .i64 s.id) (.int .i64 s.ep) (.slice al nl cl) (.int .i64 s.dn) (.int .i64 s.tr.z) (.slice an nn cn) (.slice ai ni ci) (.slice aw nw cw)) k s :=
  ⟨ad, nd, cd, al, nl, cl, an, nn, cn, ai, ni, ci, aw, nw, cw, box10_put10 hz _ _ _ _ _ _ _ _ _ _, put10_sv0 hz.dumb hss h, put10_below hb hk _ _ _ _ _ _ _ _ _ _⟩
end Go.Proofs.YtoacignhobchbaaGreatDoor

namespace Go.Proofs.YtoacignhobchbaaGreatDoor
open Go.RowKit

/-- how far Decode has come: the result's cells and the cursor -/
structure Dec (w W : World) (r : List UInt8) (b : Bool) : Prop where
  res : TxnAt W w.heap.size t0
  cur : Cur W (w.heap.size + 1) r b
  size : w.heap.size + 2 ≤ W.heap.size
  below : Below w.heap.size w W
theorem Dec.took {w W V : World} {r r' : List UInt8} {b b' : Bool} (h : Dec w W r b) (hc : Cur V (w.heap.size + 1) r' b') (ho : Only (w.heap.size + 1) W V) : Dec w V r' b' :=
  ⟨h.res.other ho (by omega), hc, by rw [ho.size]; exact h.size, ho.below h.below (by omega)⟩
theorem Dec.kept {w W V : World} {r : List UInt8} {b : Bool} (h : Dec w W r b) (hb : Below W.heap.size W V) : Dec w V r b :=
  ⟨h.res.kept hb (by have := h.size; omega), h.cur.kept hb (by have := h.size; omega), Nat.le_trans h.size hb.size, h.below.trans (hb.mono h.below.size)⟩
theorem Dec.new {w : World} {s : List UInt8} : Dec w ((w.alloc (.cells #[.int .i64 0, .int .i64 0, .int .i64 0, .string ⟨#[]⟩, .string ⟨#[]⟩, .int .i64 0, .int .i64 0] 53)).alloc (.cells #[.string ⟨s.toArray⟩, .bool false] 204)) s false := by
  refine ⟨?_, ?_, by simp, ((Below.refl _ _).alloc (Nat.le_refl _) _).alloc (by simp) _⟩
  · exact (Below.heap_alloc _ _ _ (by simp)).trans (heap_new _ _)
  · have := heap_new (w.alloc (.cells #[.int .i64 0, .int .i64 0, .int .i64 0, .string ⟨#[]⟩, .string ⟨#[]⟩, .int .i64 0, .int .i64 0] 53)) (.cells #[.string ⟨s.toArray⟩, .bool false] 204)
    rwa [World.size_alloc] at this
end Go.Proofs.YtoacignhobchbaaGreatDoor

namespace Go.Proofs.YtoacignhobchbaaGreatDoor
open Go.RowKit

theorem recs_small {ts : List WTxn} (h : Logs ts) (hl : ts.length ≤ 100) : (recsL ts).length ≤ 48700 := by
  have := recsL_le ts h.good
  omega
/-- a log that lies in a row of its own, and may stand on a disk -/
structure OutL (w W : World) (v : Value) (m : List WTxn) : Prop where
  own : OwnL W w.heap.size v m
  below : Below w.heap.size w W
  log : Logs m
theorem OutL.next {w W V : World} {v : Value} {m : List WTxn} (h : OutL w W v m) (hb : Below W.heap.size W V) : OutL w V v m := ⟨h.own.next hb, below_next2 h.below hb, h.log⟩

theorem OutL.more {w W V : World} {k c : Nat} {a : Option Addr} {m : List WTxn} {t : WTxn} {O : Obj} {v' : Value} (h : OutL w W (.slice a k c) m) (hk : m.length = k) (hg : gdE t = 0) (hf : follB m t = true)
    (hown : V.ownsRow w.heap.size 53 7 v' (k + 1) (cellsT m ++ tcells t)) (hgr : (W.alloc O).grownBy V (Value.slice a k c).ownBlock) :
    ∃ a' c', v' = .slice a' (k + 1) c' ∧ OutL w V (.slice a' (k + 1) c') (m ++ [t]) := by
  obtain ⟨a', c', rfl, h1, h2⟩ := app_done h.below h.own (Nat.le_refl _) hk hown hgr
  exact ⟨a', c', rfl, h1, h2, h.log.snoc hg hf⟩

end Go.Proofs.YtoacignhobchbaaGreatDoor

namespace Go.Proofs.YtoacignhobchbaaGreatDoor
open Go.RowKit

set_option maxRecDepth 10000 in
set_option maxHeartbeats 1000000 in
theorem kboots_any (w : World) : Calls Tryz.prog 6 #[] w fun e w' => e = .returned (.bool true) ∧ Below w.heap.size w w' := by
  have C := fun W => boot_none 1 (by omega) (by omega) W
  go_enter Tryz.func6, Tryz.ntmps6
  go_wp2_with fail
  refine (C _).mono ?_
  rintro e w1 ⟨v1, rfl, hv1, hb1⟩
  obtain ⟨ad, nd, cd, al, cl, an, cn, ai, ci, aw, cw, rfl, _, _, _, _, _⟩ := hv1.five
  simp only [show (svUp 1).up = true from rfl, show (svUp 1).id = 1 from rfl]
  generalize (svUp 1).ep = ep
  generalize (svUp 1).ts.length = nl
  generalize (svUp 1).dn = dn
  generalize (svUp 1).tr.z = tz
  generalize (svUp 1).tr.ns.length = nn
  generalize (svUp 1).tr.ss.length = ni
  generalize (svUp 1).ws.length = nw
  have hB := hide (nnext hb1 (allocB _ (.cells #[.bool true, .slice ad nd cd, .int .i64 1, .int .i64 ep, .slice al nl cl, .int .i64 dn, .int .i64 tz, .slice an nn cn, .slice ai ni ci, .slice aw nw cw] 36)))
  clear hv1 C hb1
  go_wp2_with fail
  go_ret
  exact ⟨rfl, unhide hB⟩

theorem appF_logF {m : List WTxn} {t : WTxn} (h : Logs (m ++ [t])) (hl : m.length ≤ 99) : GivesF 67 (fun x => #[x, txnV t, .bool true]) [logF m] [logF (m ++ [t])] 0 := by
  have hg := (Logs.at (a := m) (b := []) h).1
  have h1 := recs_small h.left (by omega)
  have h2 := recL_le hg
  have g0 : GoodD [logF m] := good_one (by simp; omega)
  have g1 : GoodD [⟨logN, recsL m, recL t⟩] := good_one (by omega)
  refine wappF_safe [logF m] [⟨logN, recsL m, recL t⟩] [logF (m ++ [t])] t 0 hg (gives_own fun v W hv => ?_) (givesF_own fun v W hv => ?_)
  · have := write_there v [logF m] [] [] (logF m) logN (recL t) W hv (good_slim g0) g0 (there_one _ _) (by simp only [logF, List.length_nil]; omega)
    simpa [logF] using this
  · have := sync_there v [⟨logN, recsL m, recL t⟩] [] [] ⟨logN, recsL m, recL t⟩ logN W hv (good_slim g1) g1 (there_one _ _)
    simpa [logF, recsL_snoc] using this
/-- a log that a server without any can take -/
structure Tkn (m : List WTxn) : Prop where
  log : Logs m
  few : m.length ≤ 40
  pos : ∀ x ∈ m, 0 < x.z
theorem Tkn.at {a b : List WTxn} {t : WTxn} (h : Tkn (a ++ t :: b)) : Logs (a ++ [t]) ∧ ¬ t.z ≤ lastZ a ∧ a.length ≤ 40 := by
  have h1 : Logs (a ++ [t]) := by
    have := h.log
    rw [show a ++ t :: b = (a ++ [t]) ++ b by simp] at this
    exact this.left
  refine ⟨h1, ?_, by have := h.few; simp at this; omega⟩
  have hp := h.pos t (by simp)
  have hf := (Logs.at (a := a) (b := []) h1).2
  by_cases h0 : a.length = 0
  · obtain rfl := List.length_eq_zero_iff.1 h0
    rw [lastZ_nil]; omega
  · rw [follB_some h0] at hf
    simpa using hf
theorem Tkn.front {a b : List WTxn} (h : Tkn (a ++ b)) : Tkn a := ⟨h.log.left, by have := h.few; simp at this; omega, fun x hx => h.pos x (by simp [hx])⟩
end Go.Proofs.YtoacignhobchbaaGreatDoor
