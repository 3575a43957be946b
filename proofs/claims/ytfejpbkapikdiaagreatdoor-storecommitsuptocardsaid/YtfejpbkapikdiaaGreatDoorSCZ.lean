/-
  aviaryref's Apply: its boxes; what it refuses at once: the walks.
  aviaryref's Apply: what it refuses at once: the walks.
  aviaryref's Apply: what it makes, ahead of the change: words on memory.
-/
import Derived.Test.YtfejpbkapikdiaaGreatDoorSCT
import Derived.Test.YtfejpbkapikdiaaGreatDoorSCV
import Derived.Test.YtfejpbkapikdiaaGreatDoorSCY
import Derived.Laws.EntriesVeiled
namespace Go.Proofs.YtfejpbkapikdiaaGreatDoor
open Go.RowKit
/-- the boxes of the tree, of the transaction, of the answer -/
structure RB (w W : World) (z : Int) (vn vs : Value) (x : WTxn) : Prop where
  t : W.heap[w.heap.size]? = some (.cells #[.int .i64 z, vn, vs] 31 (0, 0))
  x : W.heap[w.heap.size + 1]? = some (.cells #[.int .i64 x.z, .int .i64 x.o, .int .i64 x.s, .string ⟨x.p.toArray⟩, .string ⟨x.d.toArray⟩, .int .i64 x.v, .int .i64 x.w] 45 (0, 0))
  r : W.heap[w.heap.size + 2]? = some (.cells #[.int .i64 0, .slice none 0 0, .slice none 0 0] 31 (0, 0))
  b : Below w.heap.size w W
section
variable {w W V : World} {z : Int} {vn vs : Value} {x : WTxn}
theorem RB.lt (h : RB w W z vn vs x) : w.heap.size + 2 < W.heap.size := (Array.getElem?_eq_some_iff.1 h.r).1
theorem RB.next (h : RB w W z vn vs x) (hb : Below W.heap.size W V) : RB w V z vn vs x :=
  ⟨(hb.block _ (by have := h.lt; omega)).trans h.t, (hb.block _ (by have := h.lt; omega)).trans h.x, (hb.block _ h.lt).trans h.r, nnext h.b hb⟩
theorem RB.tc (h : RB w W z vn vs x) : W.cell? ⟨w.heap.size, 0, none⟩ = some (.int .i64 z) ∧ W.cell? ⟨w.heap.size, 1, none⟩ = some vn ∧ W.cell? ⟨w.heap.size, 2, none⟩ = some vs := by
  have h1 := h.t
  refine ⟨?_, ?_, ?_⟩ <;> simp [World.cell?, h1]
theorem RB.xc (h : RB w W z vn vs x) : W.cell? ⟨w.heap.size + 1, 0, none⟩ = some (.int .i64 x.z) ∧ W.cell? ⟨w.heap.size + 1, 1, none⟩ = some (.int .i64 x.o) ∧ W.cell? ⟨w.heap.size + 1, 2, none⟩ = some (.int .i64 x.s) ∧ W.cell? ⟨w.heap.size + 1, 3, none⟩ = some (.string ⟨x.p.toArray⟩) ∧ W.cell? ⟨w.heap.size + 1, 4, none⟩ = some (.string ⟨x.d.toArray⟩) ∧ W.cell? ⟨w.heap.size + 1, 5, none⟩ = some (.int .i64 x.v) ∧ W.cell? ⟨w.heap.size + 1, 6, none⟩ = some (.int .i64 x.w) := by
  have h1 := h.x
  refine ⟨?_, ?_, ?_, ?_, ?_, ?_, ?_⟩ <;> simp [World.cell?, h1]
theorem RB.rc (h : RB w W z vn vs x) : (W.cell? ⟨w.heap.size + 2, 0, none⟩ = some (.int .i64 0) ∧ W.cell? ⟨w.heap.size + 2, 1, none⟩ = some (.slice none 0 0) ∧ W.cell? ⟨w.heap.size + 2, 2, none⟩ = some (.slice none 0 0)) ∧ W.frozen? ⟨w.heap.size + 2, 0, none⟩ = false ∧ W.frozen? ⟨w.heap.size + 2, 1, none⟩ = false ∧ W.frozen? ⟨w.heap.size + 2, 2, none⟩ = false := by
  have h1 := h.r
  refine ⟨⟨?_, ?_, ?_⟩, ?_, ?_, ?_⟩ <;> simp [World.cell?, World.frozen?, h1]
end
theorem RB.new (w : World) (z : Int) (vn vs : Value) (x : WTxn) : RB w (((w.alloc (.cells #[.int .i64 z, vn, vs] 31)).alloc (.cells #[.int .i64 x.z, .int .i64 x.o, .int .i64 x.s, .string ⟨x.p.toArray⟩, .string ⟨x.d.toArray⟩, .int .i64 x.v, .int .i64 x.w] 45)).alloc (.cells #[.int .i64 0, .slice none 0 0, .slice none 0 0] 31)) z vn vs x := by
  have e1 : (w.alloc (.cells #[.int .i64 z, vn, vs] 31)).heap.size = w.heap.size + 1 := by simp
  have e2 : ((w.alloc (.cells #[.int .i64 z, vn, vs] 31)).alloc (.cells #[.int .i64 x.z, .int .i64 x.o, .int .i64 x.s, .string ⟨x.p.toArray⟩, .string ⟨x.d.toArray⟩, .int .i64 x.v, .int .i64 x.w] 45)).heap.size = w.heap.size + 2 := by simp
  refine ⟨?_, ?_, ?_, nnext (nnext (allocB _ _) (allocB _ _)) (allocB _ _)⟩
  · rw [(allocB _ _).block _ (by simp; omega), (allocB _ _).block _ (by simp)]
    exact heap_alloc_new w _
  · rw [(allocB _ _).block _ (by simp)]
    have h := heap_alloc_new (w.alloc (.cells #[.int .i64 z, vn, vs] 31)) (.cells #[.int .i64 x.z, .int .i64 x.o, .int .i64 x.s, .string ⟨x.p.toArray⟩, .string ⟨x.d.toArray⟩, .int .i64 x.v, .int .i64 x.w] 45)
    rw [e1] at h
    exact h
  · have h := heap_alloc_new ((w.alloc (.cells #[.int .i64 z, vn, vs] 31)).alloc (.cells #[.int .i64 x.z, .int .i64 x.o, .int .i64 x.s, .string ⟨x.p.toArray⟩, .string ⟨x.d.toArray⟩, .int .i64 x.v, .int .i64 x.w] 45)) (.cells #[.int .i64 0, .slice none 0 0, .slice none 0 0] 31)
    rw [e2] at h
    exact h

/-- the answer of Apply -/
def GivesR (w : World) (t : Tr) (x : WTxn) (e : Ending) (w' : World) : Prop :=
  ∃ vn vs ve, e = .returned (.tuple #[.agg #[.int .i64 (appT t x).z, vn, vs], ve, .int .i64 (appE t x)]) ∧ OwnS w' w.heap.size vn (appT t x).ns ∧ OwnS w' w.heap.size vs (appT t x).ss ∧ OwnS w' w.heap.size ve (appV t x) ∧ Below w.heap.size w w'
theorem givesR_no {w w' : World} {t : Tr} {x : WTxn} {E : Int} {e : Ending} (hE : appE t x = E) (h0 : E ≠ 0) (he : e = .returned (.tuple #[.agg #[.int .i64 0, .slice none 0 0, .slice none 0 0], .slice none 0 0, .int .i64 E])) (hb : Below w.heap.size w w') : GivesR w t x e w' := by
  have h1 : appT t x = tr0 := by rw [appT, if_neg (by omega)]
  have h2 : appV t x = [] := by rw [appV, if_neg (by omega)]
  refine ⟨.slice none 0 0, .slice none 0 0, .slice none 0 0, ?_, ?_, ?_, ?_, hb⟩
  · rw [hE, h1]; exact he
  · rw [h1]; exact .inl ⟨rfl, rfl⟩
  · rw [h1]; exact .inl ⟨rfl, rfl⟩
  · rw [h2]; exact .inl ⟨rfl, rfl⟩
theorem appE_admR {t : Tr} {x : WTxn} (h : admE t x ≠ 0) : appE t x = admE t x := by rw [appE, if_pos h]
/-- what is asked of the arguments -/
structure Args (t : Tr) (x : WTxn) : Prop where
  wf : WfT t
  z : t.z ≤ 9223372036854775807
  long : ∀ n ∈ t.ns, n.p.length ≤ 1048576
  ss : t.ss.length ≤ 140737488355328
  xz : x.z ≤ 9223372036854775807
  xp : x.p.length ≤ 1048576
  xd : x.d.length ≤ 140737488355328

end Go.Proofs.YtfejpbkapikdiaaGreatDoor

namespace Go.Proofs.YtfejpbkapikdiaaGreatDoor
open Go.RowKit

set_option maxRecDepth 20000 in
set_option maxHeartbeats 4000000 in
theorem rapp_good (t : Tr) (x : WTxn) (vn vs : Value) (w : World) (hn : SeqV w vn t.ns) (hs : SeqV w vs t.ss) (ar : Args t x) (hg : goodT t = false) :
    Calls Tryz.prog 17 #[.agg #[.int .i64 t.z, vn, vs], txnV x] w (GivesR w t x) := by
  have HE := hide (appE_admR (t := t) (x := x) (by rw [admE, if_pos hg]; decide))
  rw [admE, if_pos hg] at HE
  have CG := hide (fun W (hW : Below w.heap.size w W) => rgoodT_any t vn vs W (hn.next hW) (hs.next hW) ar.wf ar.z ar.long ar.ss)
  have CX := hide (fun W => rgd_any x W ar.xz ar.xp ar.xd)
  have CI := hide (fun W (hW : Below w.heap.size w W) => risopen_any t.z vn vs t.ss x.s W (hs.next hW) ar.ss)
  have T0 := hide (RB.new w t.z vn vs x)
  obtain ⟨na, nc, rfl⟩ := seq_slice hn
  obtain ⟨sa, sc, rfl⟩ := seq_slice hs
  unfold txnV at CX
  unfold txnV
  clear hn hs ar
  rw [hg] at CG
  go_enter Tryz.func17, Tryz.ntmps17
  go_wp2_with fail
  refine (unhide CG _ (unhide T0).b).mono ?_
  rintro e w1 ⟨rfl, hb1⟩
  have B1 := hide ((unhide T0).next hb1)
  obtain ⟨t0, t1, t2⟩ := (unhide B1).tc
  obtain ⟨x0, x1, x2, x3, x4, x5, x6⟩ := (unhide B1).xc
  have hl1 := (unhide B1).lt
  clear hb1
  go_wp2_with fail
  refine (rno_any 3 _).mono ?_
  rintro e wE ⟨rfl, hbE⟩
  have BE := hide ((unhide B1).next hbE)
  obtain ⟨⟨r0, r1, r2⟩, f0, f1, f2⟩ := (unhide BE).rc
  have s0 := nset_same r0
  have s1 := nset_same r1
  have s2 := nset_same r2
  have hlE := (unhide BE).lt
  clear hbE
  go_wp2_with fail
  exact bodyPost_ret (v := .tuple #[.agg #[.int .i64 0, .slice none 0 0, .slice none 0 0], .slice none 0 0, .int .i64 3]) (by simp [results, Tryz.results17, go_sem, r0, r1, r2]) rfl (givesR_no (unhide HE) (by decide) rfl (unhide BE).b)
set_option maxRecDepth 20000 in
set_option maxHeartbeats 4000000 in
theorem rapp_txn (t : Tr) (x : WTxn) (vn vs : Value) (w : World) (hn : SeqV w vn t.ns) (hs : SeqV w vs t.ss) (ar : Args t x) (hg : goodT t = true) (hx : gdE x ≠ 0) :
    Calls Tryz.prog 17 #[.agg #[.int .i64 t.z, vn, vs], txnV x] w (GivesR w t x) := by
  have e0 : admE t x = gdE x := by rw [admE, if_neg (by rw [hg]; decide), if_pos hx]
  have HE := hide (appE_admR (t := t) (x := x) (by rw [e0]; exact hx))
  rw [e0] at HE
  have CG := hide (fun W (hW : Below w.heap.size w W) => rgoodT_any t vn vs W (hn.next hW) (hs.next hW) ar.wf ar.z ar.long ar.ss)
  have CX := hide (fun W => rgd_any x W ar.xz ar.xp ar.xd)
  have CI := hide (fun W (hW : Below w.heap.size w W) => risopen_any t.z vn vs t.ss x.s W (hs.next hW) ar.ss)
  have T0 := hide (RB.new w t.z vn vs x)
  obtain ⟨na, nc, rfl⟩ := seq_slice hn
  obtain ⟨sa, sc, rfl⟩ := seq_slice hs
  unfold txnV at CX
  unfold txnV
  clear hn hs ar
  rw [hg] at CG
  obtain ⟨E, hE⟩ : ∃ E, gdE x = E := ⟨_, rfl⟩
  rw [hE] at CX HE hx
  have hxb : (E == 0) = false := by simpa using hx
  have hxn : (E != 0) = true := by simpa using hx
  have HX0 := hide hx
  clear e0 hE hx hg
  go_enter Tryz.func17, Tryz.ntmps17
  go_wp2_with fail
  refine (unhide CG _ (unhide T0).b).mono ?_
  rintro e w1 ⟨rfl, hb1⟩
  have B1 := hide ((unhide T0).next hb1)
  obtain ⟨t0, t1, t2⟩ := (unhide B1).tc
  obtain ⟨x0, x1, x2, x3, x4, x5, x6⟩ := (unhide B1).xc
  have hl1 := (unhide B1).lt
  clear hb1
  go_wp2_with fail
  refine (unhide CX _).mono ?_
  rintro e w2 ⟨rfl, hb2⟩
  have B2 := hide ((unhide B1).next hb2)
  obtain ⟨t0, t1, t2⟩ := (unhide B2).tc
  obtain ⟨x0, x1, x2, x3, x4, x5, x6⟩ := (unhide B2).xc
  have hl2 := (unhide B2).lt
  clear hb2
  go_wp2_with fail
  refine (rno_any E _).mono ?_
  rintro e wE ⟨rfl, hbE⟩
  have BE := hide ((unhide B2).next hbE)
  obtain ⟨⟨r0, r1, r2⟩, f0, f1, f2⟩ := (unhide BE).rc
  have s0 := nset_same r0
  have s1 := nset_same r1
  have s2 := nset_same r2
  have hlE := (unhide BE).lt
  clear hbE
  go_wp2_with fail
  exact bodyPost_ret (v := .tuple #[.agg #[.int .i64 0, .slice none 0 0, .slice none 0 0], .slice none 0 0, .int .i64 E]) (by simp [results, Tryz.results17, go_sem, r0, r1, r2]) rfl (givesR_no (unhide HE) (unhide HX0) rfl (unhide BE).b)
set_option maxRecDepth 20000 in
set_option maxHeartbeats 4000000 in
theorem rapp_order (t : Tr) (x : WTxn) (vn vs : Value) (w : World) (hn : SeqV w vn t.ns) (hs : SeqV w vs t.ss) (ar : Args t x) (hg : goodT t = true) (hx : gdE x = 0) (hz : x.z ≤ t.z) :
    Calls Tryz.prog 17 #[.agg #[.int .i64 t.z, vn, vs], txnV x] w (GivesR w t x) := by
  have e0 : admE t x = 13 := by rw [admE, if_neg (by rw [hg]; decide), if_neg (by rw [hx]; decide), if_pos hz]
  have HE := hide (appE_admR (t := t) (x := x) (by rw [e0]; decide))
  rw [e0] at HE
  have CG := hide (fun W (hW : Below w.heap.size w W) => rgoodT_any t vn vs W (hn.next hW) (hs.next hW) ar.wf ar.z ar.long ar.ss)
  have CX := hide (fun W => rgd_any x W ar.xz ar.xp ar.xd)
  have CI := hide (fun W (hW : Below w.heap.size w W) => risopen_any t.z vn vs t.ss x.s W (hs.next hW) ar.ss)
  have T0 := hide (RB.new w t.z vn vs x)
  obtain ⟨na, nc, rfl⟩ := seq_slice hn
  obtain ⟨sa, sc, rfl⟩ := seq_slice hs
  unfold txnV at CX
  unfold txnV
  clear hn hs ar
  rw [hg] at CG
  rw [hx] at CX
  clear e0 hx hg
  go_enter Tryz.func17, Tryz.ntmps17
  go_wp2_with fail
  refine (unhide CG _ (unhide T0).b).mono ?_
  rintro e w1 ⟨rfl, hb1⟩
  have B1 := hide ((unhide T0).next hb1)
  obtain ⟨t0, t1, t2⟩ := (unhide B1).tc
  obtain ⟨x0, x1, x2, x3, x4, x5, x6⟩ := (unhide B1).xc
  have hl1 := (unhide B1).lt
  clear hb1
  go_wp2_with fail
  refine (unhide CX _).mono ?_
  rintro e w2 ⟨rfl, hb2⟩
  have B2 := hide ((unhide B1).next hb2)
  obtain ⟨t0, t1, t2⟩ := (unhide B2).tc
  obtain ⟨x0, x1, x2, x3, x4, x5, x6⟩ := (unhide B2).xc
  have hl2 := (unhide B2).lt
  clear hb2
  go_wp2_with fail
  refine (rno_any 13 _).mono ?_
  rintro e wE ⟨rfl, hbE⟩
  have BE := hide ((unhide B2).next hbE)
  obtain ⟨⟨r0, r1, r2⟩, f0, f1, f2⟩ := (unhide BE).rc
  have s0 := nset_same r0
  have s1 := nset_same r1
  have s2 := nset_same r2
  have hlE := (unhide BE).lt
  clear hbE
  go_wp2_with fail
  exact bodyPost_ret (v := .tuple #[.agg #[.int .i64 0, .slice none 0 0, .slice none 0 0], .slice none 0 0, .int .i64 13]) (by simp [results, Tryz.results17, go_sem, r0, r1, r2]) rfl (givesR_no (unhide HE) (by decide) rfl (unhide BE).b)
set_option maxRecDepth 20000 in
set_option maxHeartbeats 4000000 in
theorem rapp_twice (t : Tr) (x : WTxn) (vn vs : Value) (w : World) (hn : SeqV w vn t.ns) (hs : SeqV w vs t.ss) (ar : Args t x) (hg : goodT t = true) (hx : gdE x = 0) (hz : ¬ x.z ≤ t.z) (ho : x.o = 1) (hss : x.s ∈ t.ss) :
    Calls Tryz.prog 17 #[.agg #[.int .i64 t.z, vn, vs], txnV x] w (GivesR w t x) := by
  have e0 : admE t x = 8 := by rw [admE, if_neg (by rw [hg]; decide), if_neg (by rw [hx]; decide), if_neg hz, if_pos ⟨ho, hss⟩]
  have HE := hide (appE_admR (t := t) (x := x) (by rw [e0]; decide))
  rw [e0] at HE
  have CG := hide (fun W (hW : Below w.heap.size w W) => rgoodT_any t vn vs W (hn.next hW) (hs.next hW) ar.wf ar.z ar.long ar.ss)
  have CX := hide (fun W => rgd_any x W ar.xz ar.xp ar.xd)
  have CI := hide (fun W (hW : Below w.heap.size w W) => risopen_any t.z vn vs t.ss x.s W (hs.next hW) ar.ss)
  have T0 := hide (RB.new w t.z vn vs x)
  obtain ⟨na, nc, rfl⟩ := seq_slice hn
  obtain ⟨sa, sc, rfl⟩ := seq_slice hs
  unfold txnV at CX
  unfold txnV
  clear hn hs ar
  rw [hg] at CG
  rw [hx] at CX
  rw [decide_eq_true hss] at CI
  have hob : (x.o == 1) = true := by simpa using ho
  clear e0 hx hg hss ho
  go_enter Tryz.func17, Tryz.ntmps17
  go_wp2_with fail
  refine (unhide CG _ (unhide T0).b).mono ?_
  rintro e w1 ⟨rfl, hb1⟩
  have B1 := hide ((unhide T0).next hb1)
  obtain ⟨t0, t1, t2⟩ := (unhide B1).tc
  obtain ⟨x0, x1, x2, x3, x4, x5, x6⟩ := (unhide B1).xc
  have hl1 := (unhide B1).lt
  clear hb1
  go_wp2_with fail
  refine (unhide CX _).mono ?_
  rintro e w2 ⟨rfl, hb2⟩
  have B2 := hide ((unhide B1).next hb2)
  obtain ⟨t0, t1, t2⟩ := (unhide B2).tc
  obtain ⟨x0, x1, x2, x3, x4, x5, x6⟩ := (unhide B2).xc
  have hl2 := (unhide B2).lt
  clear hb2
  go_wp2_with fail
  refine (unhide CI _ (unhide B2).b).mono ?_
  rintro e w3 ⟨rfl, hb3⟩
  have B3 := hide ((unhide B2).next hb3)
  obtain ⟨t0, t1, t2⟩ := (unhide B3).tc
  obtain ⟨x0, x1, x2, x3, x4, x5, x6⟩ := (unhide B3).xc
  have hl3 := (unhide B3).lt
  clear hb3
  go_wp2_with fail
  refine (rno_any 8 _).mono ?_
  rintro e wE ⟨rfl, hbE⟩
  have BE := hide ((unhide B3).next hbE)
  obtain ⟨⟨r0, r1, r2⟩, f0, f1, f2⟩ := (unhide BE).rc
  have s0 := nset_same r0
  have s1 := nset_same r1
  have s2 := nset_same r2
  have hlE := (unhide BE).lt
  clear hbE
  go_wp2_with fail
  exact bodyPost_ret (v := .tuple #[.agg #[.int .i64 0, .slice none 0 0, .slice none 0 0], .slice none 0 0, .int .i64 8]) (by simp [results, Tryz.results17, go_sem, r0, r1, r2]) rfl (givesR_no (unhide HE) (by decide) rfl (unhide BE).b)
set_option maxRecDepth 20000 in
set_option maxHeartbeats 4000000 in
theorem rapp_sess (t : Tr) (x : WTxn) (vn vs : Value) (w : World) (hn : SeqV w vn t.ns) (hs : SeqV w vs t.ss) (ar : Args t x) (hg : goodT t = true) (hx : gdE x = 0) (hz : ¬ x.z ≤ t.z) (ho : x.o ≠ 1) (hss : x.s ∉ t.ss) :
    Calls Tryz.prog 17 #[.agg #[.int .i64 t.z, vn, vs], txnV x] w (GivesR w t x) := by
  have e0 : admE t x = 12 := by rw [admE, if_neg (by rw [hg]; decide), if_neg (by rw [hx]; decide), if_neg hz, if_neg (fun h => ho h.1), if_pos ⟨ho, hss⟩]
  have HE := hide (appE_admR (t := t) (x := x) (by rw [e0]; decide))
  rw [e0] at HE
  have CG := hide (fun W (hW : Below w.heap.size w W) => rgoodT_any t vn vs W (hn.next hW) (hs.next hW) ar.wf ar.z ar.long ar.ss)
  have CX := hide (fun W => rgd_any x W ar.xz ar.xp ar.xd)
  have CI := hide (fun W (hW : Below w.heap.size w W) => risopen_any t.z vn vs t.ss x.s W (hs.next hW) ar.ss)
  have T0 := hide (RB.new w t.z vn vs x)
  obtain ⟨na, nc, rfl⟩ := seq_slice hn
  obtain ⟨sa, sc, rfl⟩ := seq_slice hs
  unfold txnV at CX
  unfold txnV
  clear hn hs ar
  rw [hg] at CG
  rw [hx] at CX
  rw [decide_eq_false hss] at CI
  have hob : (x.o == 1) = false := by simpa using ho
  have hon : (x.o != 1) = true := by simpa using ho
  clear e0 hx hg hss ho
  go_enter Tryz.func17, Tryz.ntmps17
  go_wp2_with fail
  refine (unhide CG _ (unhide T0).b).mono ?_
  rintro e w1 ⟨rfl, hb1⟩
  have B1 := hide ((unhide T0).next hb1)
  obtain ⟨t0, t1, t2⟩ := (unhide B1).tc
  obtain ⟨x0, x1, x2, x3, x4, x5, x6⟩ := (unhide B1).xc
  have hl1 := (unhide B1).lt
  clear hb1
  go_wp2_with fail
  refine (unhide CX _).mono ?_
  rintro e w2 ⟨rfl, hb2⟩
  have B2 := hide ((unhide B1).next hb2)
  obtain ⟨t0, t1, t2⟩ := (unhide B2).tc
  obtain ⟨x0, x1, x2, x3, x4, x5, x6⟩ := (unhide B2).xc
  have hl2 := (unhide B2).lt
  clear hb2
  go_wp2_with fail
  refine (unhide CI _ (unhide B2).b).mono ?_
  rintro e w3 ⟨rfl, hb3⟩
  have B3 := hide ((unhide B2).next hb3)
  obtain ⟨t0, t1, t2⟩ := (unhide B3).tc
  obtain ⟨x0, x1, x2, x3, x4, x5, x6⟩ := (unhide B3).xc
  have hl3 := (unhide B3).lt
  clear hb3
  go_wp2_with fail
  refine (rno_any 12 _).mono ?_
  rintro e wE ⟨rfl, hbE⟩
  have BE := hide ((unhide B3).next hbE)
  obtain ⟨⟨r0, r1, r2⟩, f0, f1, f2⟩ := (unhide BE).rc
  have s0 := nset_same r0
  have s1 := nset_same r1
  have s2 := nset_same r2
  have hlE := (unhide BE).lt
  clear hbE
  go_wp2_with fail
  exact bodyPost_ret (v := .tuple #[.agg #[.int .i64 0, .slice none 0 0, .slice none 0 0], .slice none 0 0, .int .i64 12]) (by simp [results, Tryz.results17, go_sem, r0, r1, r2]) rfl (givesR_no (unhide HE) (by decide) rfl (unhide BE).b)
theorem rapp_adm (t : Tr) (x : WTxn) (vn vs : Value) (w : World) (hn : SeqV w vn t.ns) (hs : SeqV w vs t.ss) (ar : Args t x) (h : admE t x ≠ 0) :
    Calls Tryz.prog 17 #[.agg #[.int .i64 t.z, vn, vs], txnV x] w (GivesR w t x) := by
  cases hg : goodT t
  · exact rapp_good t x vn vs w hn hs ar hg
  · by_cases hx : gdE x = 0
    · by_cases hz : x.z ≤ t.z
      · exact rapp_order t x vn vs w hn hs ar hg hx hz
      · by_cases ho : x.o = 1
        · by_cases hss : x.s ∈ t.ss
          · exact rapp_twice t x vn vs w hn hs ar hg hx hz ho hss
          · exact absurd (by rw [admE, if_neg (by rw [hg]; decide), if_neg (by rw [hx]; decide), if_neg hz, if_neg (fun h => hss h.2), if_neg (fun h => h.1 ho)]) h
        · by_cases hss : x.s ∈ t.ss
          · exact absurd (by rw [admE, if_neg (by rw [hg]; decide), if_neg (by rw [hx]; decide), if_neg hz, if_neg (fun h => ho h.1), if_neg (fun h => h.2 hss)]) h
          · exact rapp_sess t x vn vs w hn hs ar hg hx hz ho hss
    · exact rapp_txn t x vn vs w hn hs ar hg hx

end Go.Proofs.YtfejpbkapikdiaaGreatDoor

namespace Go.Proofs.YtfejpbkapikdiaaGreatDoor
open Go.RowKit

theorem rnode_ex (t : Tr) (vn vs : Value) (p : List UInt8) (w : World) (hv : SeqV w vn t.ns) (g : GoodT t) :
    Calls Tryz.prog 47 #[.agg #[.int .i64 t.z, vn, vs], .string ⟨p.toArray⟩] w fun e w' => ∃ j : Int, e = .returned (.int .i64 j) ∧ Below w.heap.size w w' := by
  have hl := g.nod.few
  rcases nwhere p t.ns g.nod.asc with ⟨A, n, B, T⟩ | ⟨A, B, T⟩
  · refine (rnode_at t.z vn vs t.ns p A.length n w hv (by omega) (at_there T)).mono ?_
    rintro e w' ⟨h1, h2⟩
    exact ⟨_, h1, h2⟩
  · refine (rnode_no t.z vn vs t.ns p w hv (by omega) (fun n hm => by
      rw [T.eq] at hm
      rcases List.mem_append.1 hm with h | h
      · exact bl_ne (T.lo n h)
      · exact (bl_ne (T.hi n h)).symm)).mono ?_
    rintro e w' ⟨h1, h2⟩
    exact ⟨_, h1, h2⟩
/-- the parent's closure as a value -/
def parV (bo bx be : Nat) : Value := .func (.func 49) #[] #[.pointer (some ⟨bo, 0, none⟩), .pointer (some ⟨bx, 0, none⟩), .pointer (some ⟨be, 0, none⟩)]
/-- blocks that the change may touch -/
def FB (m bp k : Nat) : Prop := m ≤ k ∧ k ≠ bp
/-- the boxes stay -/
theorem RB.touch {w W V : World} {z : Int} {vn vs : Value} {x : WTxn} {m bp : Nat} (h : RB w W z vn vs x) (hm : w.heap.size + 3 ≤ m) (ht : Touch (FB m bp) W V) : RB w V z vn vs x := by
  have hl := h.lt
  have nf : ∀ k, k < m → ¬ FB m bp k := fun k hk hf => by have := hf.1; omega
  refine ⟨(ht.block _ (by omega) (nf _ (by omega))).trans h.t, (ht.block _ (by omega) (nf _ (by omega))).trans h.x, (ht.block _ hl (nf _ (by omega))).trans h.r, h.b.trans (ht.below (by omega) (fun k hf => by have := hf.1; omega))⟩
/-- the state ahead of the change -/
structure RS (w W : World) (t : Tr) (vn vs : Value) (x : WTxn) (m bo be bp : Nat) (un us ue : Value) (ns : List Nd) (ss : List Int) (es : List Ev) : Prop where
  rb : RB w W t.z vn vs x
  rg : RG W (FB m bp) bo be x.z un us ue ns ss es
  pc : W.heap[bp]? = some (.cells #[parV bo (w.heap.size + 1) be] 99 (0, 0))
  hm : w.heap.size + 3 ≤ m
theorem RS.next {w W V : World} {t : Tr} {vn vs : Value} {x : WTxn} {m bo be bp : Nat} {un us ue : Value} {ns : List Nd} {ss : List Int} {es : List Ev} (h : RS w W t vn vs x m bo be bp un us ue ns ss es) (hb : Below W.heap.size W V) : RS w V t vn vs x m bo be bp un us ue ns ss es :=
  ⟨h.rb.next hb, h.rg.next hb, (hb.block _ (Array.getElem?_eq_some_iff.1 h.pc).1).trans h.pc, h.hm⟩
theorem RS.pcell {w W : World} {t : Tr} {vn vs : Value} {x : WTxn} {m bo be bp : Nat} {un us ue : Value} {ns : List Nd} {ss : List Int} {es : List Ev} (h : RS w W t vn vs x m bo be bp un us ue ns ss es) : W.cell? ⟨bp, 0, none⟩ = some (parV bo (w.heap.size + 1) be) ∧ bp < W.heap.size := by
  have h1 := h.pc
  exact ⟨by simp [World.cell?, h1], (Array.getElem?_eq_some_iff.1 h.pc).1⟩
/-- a step that touches no more than it may -/
theorem RS.step {w W V : World} {t : Tr} {vn vs : Value} {x : WTxn} {m bo be bp : Nat} {un us ue un' us' ue' : Value} {ns ns' : List Nd} {ss ss' : List Int} {es es' : List Ev} (h : RS w W t vn vs x m bo be bp un us ue ns ss es) (ht : Touch (FB m bp) W V) (hg : RG V (FB m bp) bo be x.z un' us' ue' ns' ss' es') : RS w V t vn vs x m bo be bp un' us' ue' ns' ss' es' :=
  ⟨h.rb.touch h.hm ht, hg, (ht.block _ (Array.getElem?_eq_some_iff.1 h.pc).1 (fun hf => hf.2 rfl)).trans h.pc, h.hm⟩
theorem RS.free {w W : World} {t : Tr} {vn vs : Value} {x : WTxn} {m bo be bp : Nat} {un us ue : Value} {ns : List Nd} {ss : List Int} {es : List Ev} (h : RS w W t vn vs x m bo be bp un us ue ns ss es) (hmW : m ≤ W.heap.size) : ∀ k, W.heap.size ≤ k → FB m bp k := fun k hk => ⟨by omega, by have := h.pcell.2; omega⟩

theorem rows_apart {W : World} {B C : Nat} {un us : Value} {ns : List Nd} {ss : List Int} (hn : OwnS W B un ns) (hs : OwnS W C us ss) : ∀ k, un.ownBlock = some k → us.ownBlock ≠ some k := by
  intro k h1 h2
  rcases hn with ⟨rfl, _⟩ | ⟨g, cap, rfl, _, r1, e1, _⟩
  · cases h1
  · rcases hs with ⟨rfl, _⟩ | ⟨q, cap', rfl, _, r2, e2, _⟩
    · cases h2
    · simp only [Value.ownBlock, Option.some.injEq] at h1 h2
      subst h1 h2
      rw [e1] at e2
      simp only [Option.some.injEq, Obj.cells.injEq] at e2
      exact absurd e2.2.1 (by decide)
theorem RS.new {w w6 w7 : World} {t : Tr} {vn vs : Value} {x : WTxn} {un us : Value} (B6 : RB w w6 t.z vn vs x) (hb : Below w6.heap.size w6 w7) (hn : OwnS w7 w6.heap.size un t.ns) (hs : OwnS w7 w6.heap.size us t.ss) :
    RS w (((w7.alloc (.cells #[.int .i64 x.z, un, us] 31)).alloc (.cells #[.slice none 0 0] 46)).alloc (.cells #[parV w7.heap.size (w.heap.size + 1) (w7.heap.size + 1)] 99)) t vn vs x w6.heap.size w7.heap.size (w7.heap.size + 1) (w7.heap.size + 2) un us (.slice none 0 0) t.ns t.ss [] := by
  obtain ⟨W1, hW1⟩ : ∃ W1, w7.alloc (.cells #[.int .i64 x.z, un, us] 31) = W1 := ⟨_, rfl⟩
  obtain ⟨W2, hW2⟩ : ∃ W2, W1.alloc (.cells #[.slice none 0 0] 46) = W2 := ⟨_, rfl⟩
  obtain ⟨W3, hW3⟩ : ∃ W3, W2.alloc (.cells #[parV w7.heap.size (w.heap.size + 1) (w7.heap.size + 1)] 99) = W3 := ⟨_, rfl⟩
  have s1 : W1.heap.size = w7.heap.size + 1 := by rw [← hW1]; simp
  have s2 : W2.heap.size = w7.heap.size + 2 := by rw [← hW2]; simp [s1]
  have b1 : Below w7.heap.size w7 W1 := by rw [← hW1]; exact allocB _ _
  have b2 : Below W1.heap.size W1 W2 := by rw [← hW2]; exact allocB _ _
  have b3 : Below W2.heap.size W2 W3 := by rw [← hW3]; exact allocB _ _
  have o1 : W1.heap[w7.heap.size]? = some (.cells #[.int .i64 x.z, un, us] 31 (0, 0)) := by rw [← hW1]; exact heap_alloc_new w7 _
  have o2 : W2.heap[w7.heap.size + 1]? = some (.cells #[.slice none 0 0] 46 (0, 0)) := by rw [← hW2, ← s1]; exact heap_alloc_new W1 _
  have o3 : W3.heap[w7.heap.size + 2]? = some (.cells #[parV w7.heap.size (w.heap.size + 1) (w7.heap.size + 1)] 99 (0, 0)) := by rw [← hW3, ← s2]; exact heap_alloc_new W2 _
  rw [hW1, hW2, hW3]
  have hl6 := B6.lt
  have h67 := hb.size
  have b73 := nnext (nnext b1 b2) b3
  have la : ∀ {α : Type} [Lay α] {u : Value} {xs : List α}, OwnS w7 w6.heap.size u xs → ∀ k, u.ownBlock = some k → FB w6.heap.size (w7.heap.size + 2) k ∧ k ≠ w7.heap.size ∧ k ≠ w7.heap.size + 1 := by
    intro α _ u xs h k hk
    have h1 := h.low k hk
    have h2 : w6.heap.size ≤ k := by
      rcases h with ⟨rfl, _⟩ | ⟨g, cap, rfl, h1, _⟩
      · cases hk
      · simp only [Value.ownBlock, Option.some.injEq] at hk; omega
    exact ⟨⟨h2, by omega⟩, by omega, by omega⟩
  refine ⟨((B6.next hb).next b73), ⟨?_, ?_, by omega, ⟨h67, by omega⟩, ⟨by omega, by omega⟩, (hn.next b73).lower (Nat.zero_le _), (hs.next b73).lower (Nat.zero_le _), .inl ⟨rfl, rfl⟩, fun k hk => ?_, fun k hk => ?_, fun k hk => by cases hk⟩, o3, by omega⟩
  · exact (b3.block _ (by omega)).trans ((b2.block _ (by omega)).trans o1)
  · exact (b3.block _ (by omega)).trans o2
  · obtain ⟨h1, h2, h3⟩ := la hn k hk
    exact ⟨h1, h2, h3, rows_apart hn hs k hk, fun e => by cases e⟩
  · obtain ⟨h1, h2, h3⟩ := la hs k hk
    exact ⟨h1, h2, h3, fun e => by cases e⟩

end Go.Proofs.YtfejpbkapikdiaaGreatDoor
