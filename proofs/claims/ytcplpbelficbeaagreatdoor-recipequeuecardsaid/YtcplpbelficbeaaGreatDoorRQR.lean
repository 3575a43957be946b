/-
  prep.fillChange: the walk.
  prep.number: the walk.
-/
import Derived.Test.YtcplpbelficbeaaGreatDoorRQQ
import Derived.Test.YtcplpbelficbeaaGreatDoorRQK
namespace Go.Proofs.YtcplpbelficbeaaGreatDoor
open Go.RowKit

/-- the boxes of a tree and of a request -/
structure TR (W : World) (q : Nat) (z : Int) (vn vs : Value) (r : Rq) : Prop where
  t : W.heap[q]? = some (.cells #[.int .i64 z, vn, vs] 26 (0, 0))
  r : W.heap[q + 1]? = some (.cells #[.int .i64 r.o, .int .i64 r.s, .string ⟨r.p.toArray⟩, .string ⟨r.d.toArray⟩, .int .i64 r.v, .int .i64 r.f] 30 (0, 0))
section
variable {W V : World} {q : Nat} {z : Int} {vn vs : Value} {r : Rq}
theorem TR.lt (h : TR W q z vn vs r) : q + 1 < W.heap.size := (Array.getElem?_eq_some_iff.1 h.r).1
theorem TR.next (h : TR W q z vn vs r) (hb : Below W.heap.size W V) : TR V q z vn vs r := ⟨(hb.block _ (by have := h.lt; omega)).trans h.t, (hb.block _ h.lt).trans h.r⟩
theorem TR.other (h : TR W q z vn vs r) {a : Addr} (v : Value) (h1 : a.block < q ∨ q + 1 < a.block) : TR (W.setCell a v) q z vn vs r :=
  ⟨(Below.heap_setCell W a v q (by omega)).trans h.t, (Below.heap_setCell W a v (q + 1) (by omega)).trans h.r⟩
theorem TR.nine (h : TR W q z vn vs r) : W.cell? ⟨q, 0, none⟩ = some (.int .i64 z) ∧ W.cell? ⟨q, 1, none⟩ = some vn ∧ W.cell? ⟨q, 2, none⟩ = some vs ∧ W.cell? ⟨q + 1, 0, none⟩ = some (.int .i64 r.o) ∧ W.cell? ⟨q + 1, 1, none⟩ = some (.int .i64 r.s) ∧ W.cell? ⟨q + 1, 2, none⟩ = some (.string ⟨r.p.toArray⟩) ∧ W.cell? ⟨q + 1, 3, none⟩ = some (.string ⟨r.d.toArray⟩) ∧ W.cell? ⟨q + 1, 4, none⟩ = some (.int .i64 r.v) ∧ W.cell? ⟨q + 1, 5, none⟩ = some (.int .i64 r.f) := by
  have h1 := h.t
  have h2 := h.r
  refine ⟨?_, ?_, ?_, ?_, ?_, ?_, ?_, ?_, ?_⟩ <;> simp [World.cell?, h1, h2]
end
theorem TR.new (w : World) (z : Int) (vn vs : Value) (r : Rq) : TR ((w.alloc (.cells #[.int .i64 z, vn, vs] 26)).alloc (.cells #[.int .i64 r.o, .int .i64 r.s, .string ⟨r.p.toArray⟩, .string ⟨r.d.toArray⟩, .int .i64 r.v, .int .i64 r.f] 30)) w.heap.size z vn vs r := by
  refine ⟨?_, ?_⟩
  · rw [(allocB _ _).block _ (by simp)]
    exact heap_alloc_new w _
  · have h := heap_alloc_new (w.alloc (.cells #[.int .i64 z, vn, vs] 26)) (.cells #[.int .i64 r.o, .int .i64 r.s, .string ⟨r.p.toArray⟩, .string ⟨r.d.toArray⟩, .int .i64 r.v, .int .i64 r.f] 30)
    rw [show (w.alloc (.cells #[.int .i64 z, vn, vs] 26)).heap.size = w.heap.size + 1 by simp] at h
    exact h

/-- what a function that fills a transaction gives: its error; the transaction where there is none -/
def GivesFl (u : World) (g : Nat) (E : Int) (x : WTxn) (e : Ending) (w' : World) : Prop :=
  e = .returned (.int .i64 E) ∧ Below u.heap.size u w' ∧ (E = 0 → TAt w' g x)

theorem givesFl_no {u : World} {g : Nat} {E E' : Int} {x : WTxn} {e : Ending} {w' : World} (hE : E = E') (h0 : E' ≠ 0) (he : e = .returned (.int .i64 E')) (hb : Below u.heap.size u w') : GivesFl u g E x e w' :=
  ⟨by rw [hE]; exact he, hb, fun h => absurd (hE.symm.trans h) h0⟩
theorem givesF_ok {u : World} {g : Nat} {E : Int} {x : WTxn} {e : Ending} {w' : World} (hE : E = 0) (he : e = .returned (.int .i64 0)) (hb : Below u.heap.size u w') (hx : TAt w' g x) : GivesFl u g E x e w' :=
  ⟨by rw [hE]; exact he, hb, fun _ => hx⟩
theorem cell_other {W : World} {a : Addr} {v x : Value} {k j : Nat} (h : W.cell? ⟨k, j, none⟩ = some x) (hk : k ≠ a.block) : (W.setCell a v).cell? ⟨k, j, none⟩ = some x := by
  have e := Below.heap_setCell W a v k hk
  unfold World.cell? at h ⊢
  simp only at h ⊢
  rw [e]
  exact h
theorem TAt.p {W : World} {g : Nat} {x : WTxn} (h : TAt W g x) (l : List UInt8) : TAt (W.setCell ⟨g, 3, none⟩ (.string ⟨l.toArray⟩)) g { x with p := l } := by
  unfold TAt at *; rw [block_set _ h]; simp
theorem TAt.d {W : World} {g : Nat} {x : WTxn} (h : TAt W g x) (l : List UInt8) : TAt (W.setCell ⟨g, 4, none⟩ (.string ⟨l.toArray⟩)) g { x with d := l } := by
  unfold TAt at *; rw [block_set _ h]; simp
theorem TAt.v {W : World} {g : Nat} {x : WTxn} (h : TAt W g x) (l : Int) : TAt (W.setCell ⟨g, 5, none⟩ (.int .i64 l)) g { x with v := l } := by
  unfold TAt at *; rw [block_set _ h]; simp
theorem TAt.w {W : World} {g : Nat} {x : WTxn} (h : TAt W g x) (l : Int) : TAt (W.setCell ⟨g, 6, none⟩ (.int .i64 l)) g { x with w := l } := by
  unfold TAt at *; rw [block_set _ h]; simp

set_option maxRecDepth 20000 in
set_option maxHeartbeats 4000000 in
theorem fchange_any (t : Tr) (z : Int) (vn vs : Value) (r : Rq) (g : Nat) (u w : World) (gt : GoodT t) (hn : SeqV u vn t.ns) (hs : SeqV u vs t.ss) (hb : Below u.heap.size u w) (hg : u.heap.size ≤ g) (hx : TAt w g ⟨z, r.o, r.s, [], [], 0, 0⟩) (ho : r.o = 4 ∨ r.o = 5) (hp : r.p.length ≤ 140737488355328) (hd : r.d.length ≤ 140737488355328) :
    Calls Tryz.prog 33 #[.pointer (some ⟨g, 0, none⟩), .agg #[.int .i64 t.z, vn, vs], rqV r] w (GivesFl u g (fchE t r) (fchX t z r)) := by
  have CG := hide (fun W (hW : Below u.heap.size u W) => tget_any t vn vs r.p W gt (hn.next hW))
  have CO := hide (fun W (hW : Below u.heap.size u W) => topen_any t.z vn vs t.ss r.s W (hs.next hW) gt.ses)
  have CP := hide (fun W => good_any ⟨r.p.toArray⟩ W)
  have CL := hide (fun W => nclone_any r.p W (by omega))
  have CD := hide (fun W => nclone_any r.d W (by omega))
  obtain ⟨na, nc, rfl⟩ := seq_slice hn
  obtain ⟨sa, sc, rfl⟩ := seq_slice hs
  unfold nodeV at CG
  obtain ⟨ro, rs, rp, rd, rv, rf⟩ := r
  unfold rqV
  simp only at *
  have X0 := hide hx
  have B0 := hide hb
  have hgl := hx.lt
  have R0 := hide (TR.new w t.z (.slice na t.ns.length nc) (.slice sa t.ss.length sc) ⟨ro, rs, rp, rd, rv, rf⟩)
  clear hn hs hb hx
  go_enter Tryz.func33, Tryz.ntmps33
  go_wp2_with fail
  refine (unhide CG _ (nnext (nnext (unhide B0) (allocB _ _)) (allocB _ _))).mono ?_
  rintro e w1 ⟨rfl, hb1⟩
  have R1 := hide ((unhide R0).next hb1)
  have B1 := hide (nnext (unhide B0) (nbox_then (nbox_then hb1)))
  have X1 := hide ((unhide X0).next (nbox_then (nbox_then hb1)))
  clear hb1 R0 B0 X0 CG
  obtain ⟨N, hN⟩ : ∃ N, getN t rp = N := ⟨_, rfl⟩
  obtain ⟨E, hE⟩ : ∃ E, getE t rp = E := ⟨_, rfl⟩
  rw [hN, hE]
  have HN := hide hN
  have HE := hide hE
  clear hN hE
  obtain ⟨np, nd, nc, nm, nq, nv, nk, no, nn⟩ := N
  simp only
  have R2 := hide ((unhide R1).next (allocB w1 (.cells #[.string ⟨np.toArray⟩, .string ⟨nd.toArray⟩, .int .i64 nc, .int .i64 nm, .int .i64 nq, .int .i64 nv, .int .i64 nk, .int .i64 no, .int .i64 nn] 52)))
  obtain ⟨a0, a1, a2, a3, a4, a5, a6, a7, a8⟩ := (unhide R2).nine
  simp only at a0 a1 a2 a3 a4 a5 a6 a7 a8
  go_wp2_with fail
  refine (unhide CP _).mono ?_
  rintro e w2 ⟨rfl, hb2⟩
  have R3 := hide ((unhide R2).next hb2)
  have B3 := hide (nnext (unhide B1) (nbox_then hb2))
  have X3 := hide ((unhide X1).next (nbox_then hb2))
  have D3 : w2.cell? ⟨w1.heap.size, 5, none⟩ = some (.int .i64 nv) := by rw [hb2.cell (p := ⟨w1.heap.size, 5, none⟩) (by simp)]; simp
  obtain ⟨b0, b1, b2, b3, b4, b5, b6, b7, b8⟩ := (unhide R3).nine
  simp only at b0 b1 b2 b3 b4 b5 b6 b7 b8
  have hg1 := (unhide X1).lt
  clear a0 a1 a2 a3 a4 a5 a6 a7 a8 hb2 R1 R2 B1 X1 CP
  cases hgd : goodB rp with
  | false =>
    have HG := hide hgd
    clear hgd
    go_wp2_with fail
    go_ret
    exact givesFl_no (fch_form (unhide HG)) (by decide) rfl (unhide B3)
  | true =>
    have HG := hide hgd
    clear hgd
    go_wp2_with fail
    refine (unhide CO _ (unhide B3)).mono ?_
    rintro e w3 ⟨rfl, hb3⟩
    have R4 := hide ((unhide R3).next hb3)
    have B4 := hide (nnext (unhide B3) hb3)
    have X4 := hide ((unhide X3).next hb3)
    have D4 : w3.cell? ⟨w1.heap.size, 5, none⟩ = some (.int .i64 nv) := by rw [hb3.cell (p := ⟨w1.heap.size, 5, none⟩) (World.block_lt_of_cell? _ _ D3)]; exact D3
    obtain ⟨d0, d1, d2, d3, d4, d5, d6, d7, d8⟩ := (unhide R4).nine
    simp only at d0 d1 d2 d3 d4 d5 d6 d7 d8
    clear b0 b1 b2 b3 b4 b5 b6 b7 b8 hb3 R3 B3 X3 CO D3
    by_cases hm : rs ∈ t.ss
    · rw [show decide (rs ∈ t.ss) = true from decide_eq_true hm]
      have HM := hide hm
      clear hm
      cases hl : lookN t.ns rp with
      | none =>
        have HL := hide hl
        obtain ⟨_, h7⟩ := get_none hl
        rw [unhide HE] at h7
        subst h7
        clear hl
        go_wp2_with fail
        go_ret
        exact givesFl_no (fch_none (unhide HG) (unhide HM) (unhide HL)) (by decide) rfl (unhide B4)
      | some n =>
        have HL := hide hl
        obtain ⟨hnn, h0⟩ := get_some hl
        rw [unhide HE] at h0
        subst h0
        rw [unhide HN] at hnn
        have hnv : n.v = nv := by rw [← hnn]
        have hko := gt.nod.ok n (lookN_some hl).1
        have hv0 : 0 ≤ nv := by have := hko.v0; omega
        have hv1 : nv ≤ 2147483647 := by have := hko.v1; omega
        have HV := hide hnv
        clear hl hnn hnv hko
        by_cases hv : rv = -1 ∨ rv = nv
        · have HF : Hid (fchE t ⟨ro, rs, rp, rd, rv, rf⟩ = 0) := hide ((fch_some (unhide HG) (unhide HM) (unhide HL)).trans (if_pos (by rw [unhide HV]; exact hv)))
          have HY : Hid (verN t ⟨ro, rs, rp, rd, rv, rf⟩ = nv) := hide ((ver_some (unhide HL)).trans (unhide HV))
          have hgw := (unhide X4).lt
          have hc : (rv != -1) = false ∨ ((rv != -1) = true ∧ (rv != nv) = false) := by
            rcases hv with h | h
            · exact .inl (by simp [h])
            · by_cases h1 : rv = -1
              · exact .inl (by simp [h1])
              · exact .inr ⟨by simp [h1], by simp [h]⟩
          clear HN HE HG HM HL HV hv
          rcases hc with hc1 | ⟨hc1, hc2⟩
          · rcases ho with rfl | rfl
            · have HX : Hid (fchX t z ⟨4, rs, rp, rd, rv, rf⟩ = ⟨z, 4, rs, rp, [], 0, 0⟩) := hide rfl
              go_wp2_with fail
              refine (unhide CL _).mono ?_
              rintro e w4 ⟨rfl, hb4⟩
              have R5 := hide ((unhide R4).next hb4)
              have B5 := hide (nnext (unhide B4) hb4)
              have X5 := hide ((unhide X4).next hb4)
              have D5 : w4.cell? ⟨w1.heap.size, 5, none⟩ = some (.int .i64 nv) := by rw [hb4.cell (p := ⟨w1.heap.size, 5, none⟩) (World.block_lt_of_cell? _ _ D4)]; exact D4
              have k3 := (unhide X5).c3
              have f3 := (unhide X5).f 3
              have hgw5 := (unhide X5).lt
              obtain ⟨e0, e1, e2, e3, e4, e5, e6, e7, e8⟩ := (unhide R5).nine
              simp only at e0 e1 e2 e3 e4 e5 e6 e7 e8
              have hne : w.heap.size + 1 ≠ g := by omega
              clear d0 d1 d2 d3 d4 d5 d6 d7 d8 hb4 R4 B4 X4 D4 CL
              go_wp2_with fail
              go_ret
              exact givesF_ok (unhide HF) rfl ((unhide B5).setCell hg _) (by rw [unhide HX]; exact (unhide X5).p rp)
            · have HX : Hid (fchX t z ⟨5, rs, rp, rd, rv, rf⟩ = ⟨z, 5, rs, rp, rd, nv + 1, 0⟩) := hide (by rw [fchX, unhide HY]; rfl)
              go_wp2_with fail
              refine (unhide CL _).mono ?_
              rintro e w4 ⟨rfl, hb4⟩
              have R5 := hide ((unhide R4).next hb4)
              have B5 := hide (nnext (unhide B4) hb4)
              have X5 := hide ((unhide X4).next hb4)
              have D5 : w4.cell? ⟨w1.heap.size, 5, none⟩ = some (.int .i64 nv) := by rw [hb4.cell (p := ⟨w1.heap.size, 5, none⟩) (World.block_lt_of_cell? _ _ D4)]; exact D4
              have k3 := (unhide X5).c3
              have f3 := (unhide X5).f 3
              have hgw5 := (unhide X5).lt
              obtain ⟨e0, e1, e2, e3, e4, e5, e6, e7, e8⟩ := (unhide R5).nine
              simp only at e0 e1 e2 e3 e4 e5 e6 e7 e8
              have hne : w.heap.size + 1 ≠ g := by omega
              clear d0 d1 d2 d3 d4 d5 d6 d7 d8 hb4 R4 B4 X4 D4 CL
              go_wp2_with fail
              refine (unhide CD _).mono ?_
              rintro e w6 ⟨rfl, hb6⟩
              have hgw6 : g < (w4.setCell ⟨g, 3, none⟩ (.string ⟨rp.toArray⟩)).heap.size := by simp; omega
              have B6 : Hid (Below u.heap.size u w6) := hide (nnext ((unhide B5).setCell (by exact hg) _) hb6)
              have X6 := hide (((unhide X5).p rp).next hb6)
              have D6 : w6.cell? ⟨w1.heap.size, 5, none⟩ = some (.int .i64 nv) := by
                have D7 := cell_other (a := ⟨g, 3, none⟩) (v := .string ⟨rp.toArray⟩) D5 (by simp only; omega)
                rw [hb6.cell (p := ⟨w1.heap.size, 5, none⟩) (World.block_lt_of_cell? _ _ D7)]
                exact D7
              have k4 := (unhide X6).c4
              have f4 := (unhide X6).f 4
              have k5 := (unhide X6).c5
              have f5 := (unhide X6).f 5
              clear hb6 R5 B5 X5 D5 k3 f3 CD
              go_wp2_with fail
              go_ret
              exact givesF_ok (unhide HF) rfl (((unhide B6).setCell hg _).setCell hg _) (by rw [unhide HX]; exact ((unhide X6).d rd).v (nv + 1))
          · rcases ho with rfl | rfl
            · have HX : Hid (fchX t z ⟨4, rs, rp, rd, rv, rf⟩ = ⟨z, 4, rs, rp, [], 0, 0⟩) := hide rfl
              go_wp2_with fail
              refine (unhide CL _).mono ?_
              rintro e w4 ⟨rfl, hb4⟩
              have R5 := hide ((unhide R4).next hb4)
              have B5 := hide (nnext (unhide B4) hb4)
              have X5 := hide ((unhide X4).next hb4)
              have D5 : w4.cell? ⟨w1.heap.size, 5, none⟩ = some (.int .i64 nv) := by rw [hb4.cell (p := ⟨w1.heap.size, 5, none⟩) (World.block_lt_of_cell? _ _ D4)]; exact D4
              have k3 := (unhide X5).c3
              have f3 := (unhide X5).f 3
              have hgw5 := (unhide X5).lt
              obtain ⟨e0, e1, e2, e3, e4, e5, e6, e7, e8⟩ := (unhide R5).nine
              simp only at e0 e1 e2 e3 e4 e5 e6 e7 e8
              have hne : w.heap.size + 1 ≠ g := by omega
              clear d0 d1 d2 d3 d4 d5 d6 d7 d8 hb4 R4 B4 X4 D4 CL
              go_wp2_with fail
              go_ret
              exact givesF_ok (unhide HF) rfl ((unhide B5).setCell hg _) (by rw [unhide HX]; exact (unhide X5).p rp)
            · have HX : Hid (fchX t z ⟨5, rs, rp, rd, rv, rf⟩ = ⟨z, 5, rs, rp, rd, nv + 1, 0⟩) := hide (by rw [fchX, unhide HY]; rfl)
              go_wp2_with fail
              refine (unhide CL _).mono ?_
              rintro e w4 ⟨rfl, hb4⟩
              have R5 := hide ((unhide R4).next hb4)
              have B5 := hide (nnext (unhide B4) hb4)
              have X5 := hide ((unhide X4).next hb4)
              have D5 : w4.cell? ⟨w1.heap.size, 5, none⟩ = some (.int .i64 nv) := by rw [hb4.cell (p := ⟨w1.heap.size, 5, none⟩) (World.block_lt_of_cell? _ _ D4)]; exact D4
              have k3 := (unhide X5).c3
              have f3 := (unhide X5).f 3
              have hgw5 := (unhide X5).lt
              obtain ⟨e0, e1, e2, e3, e4, e5, e6, e7, e8⟩ := (unhide R5).nine
              simp only at e0 e1 e2 e3 e4 e5 e6 e7 e8
              have hne : w.heap.size + 1 ≠ g := by omega
              clear d0 d1 d2 d3 d4 d5 d6 d7 d8 hb4 R4 B4 X4 D4 CL
              go_wp2_with fail
              refine (unhide CD _).mono ?_
              rintro e w6 ⟨rfl, hb6⟩
              have hgw6 : g < (w4.setCell ⟨g, 3, none⟩ (.string ⟨rp.toArray⟩)).heap.size := by simp; omega
              have B6 : Hid (Below u.heap.size u w6) := hide (nnext ((unhide B5).setCell (by exact hg) _) hb6)
              have X6 := hide (((unhide X5).p rp).next hb6)
              have D6 : w6.cell? ⟨w1.heap.size, 5, none⟩ = some (.int .i64 nv) := by
                have D7 := cell_other (a := ⟨g, 3, none⟩) (v := .string ⟨rp.toArray⟩) D5 (by simp only; omega)
                rw [hb6.cell (p := ⟨w1.heap.size, 5, none⟩) (World.block_lt_of_cell? _ _ D7)]
                exact D7
              have k4 := (unhide X6).c4
              have f4 := (unhide X6).f 4
              have k5 := (unhide X6).c5
              have f5 := (unhide X6).f 5
              clear hb6 R5 B5 X5 D5 k3 f3 CD
              go_wp2_with fail
              go_ret
              exact givesF_ok (unhide HF) rfl (((unhide B6).setCell hg _).setCell hg _) (by rw [unhide HX]; exact ((unhide X6).d rd).v (nv + 1))
        · have HF : Hid (fchE t ⟨ro, rs, rp, rd, rv, rf⟩ = 9) := hide ((fch_some (unhide HG) (unhide HM) (unhide HL)).trans (if_neg (by rw [unhide HV]; exact hv)))
          have hb1 : (rv != -1) = true := by simp; omega
          have hb2 : (rv != nv) = true := by simp; omega
          clear HN HE HG HM HL HV hv
          go_wp2_with fail
          go_ret
          exact givesFl_no (unhide HF) (by decide) rfl (unhide B4)
    · rw [show decide (rs ∈ t.ss) = false from decide_eq_false hm]
      have HM := hide hm
      clear hm
      go_wp2_with fail
      go_ret
      exact givesFl_no (fch_shut (unhide HG) (unhide HM)) (by decide) rfl (unhide B4)

end Go.Proofs.YtcplpbelficbeaaGreatDoor

namespace Go.Proofs.YtcplpbelficbeaaGreatDoor
open Go.RowKit

set_option maxRecDepth 20000 in
set_option maxHeartbeats 4000000 in
theorem pnumber_any (t : Tr) (vn vs : Value) (r : Rq) (x : WTxn) (g : Nat) (u w : World) (gt : GoodT t) (hn : SeqV u vn t.ns) (hb : Below u.heap.size u w) (hg : u.heap.size ≤ g) (hx : TAt w g x) (hxp : x.p = r.p) (htab : Lib.TabIs Tryz.prog u "internal/strconv.uint64pow10" .u64 Lib.pow10Tab) :
    Calls Tryz.prog 52 #[.pointer (some ⟨g, 0, none⟩), .agg #[.int .i64 t.z, vn, vs]] w (GivesFl u g (numE t r) { x with p := numP t r }) := by
  have CS := hide (fun W => split_any r.p W)
  have CG := hide (fun W (hW : Below u.heap.size u W) => tget_any t vn vs (dirOf r.p) W gt (hn.next hW))
  have hdl := dirOf_len r.p
  have hsl : (stepOf r.p).length ≤ 200 := by
    rw [stepOf]
    split
    · rename_i h
      obtain ⟨a, b, e, hb⟩ := good_cut h.1
      rw [e, lastCut_some b hb a]
      have := goodB_le h.1
      rw [e] at this
      simp at this ⊢
      omega
    · simp
  have CN := hide (fun (n : Int) W (hW : Below u.heap.size u W) => serial_any ⟨(stepOf r.p).toArray⟩ n W (by show (stepOf r.p).length ≤ _; omega) (tab_kept htab hW))
  have CJ := hide (fun (m : List UInt8) (hm : m.length ≤ 140737488355328) W => join_any (dirOf r.p) m W hm)
  obtain ⟨na, nc, rfl⟩ := seq_slice hn
  unfold nodeV at CG
  rw [← hxp] at CS
  have k3 := hx.c3
  rw [hxp] at k3 CS
  have X0 := hide hx
  have B0 := hide hb
  have hgl := hx.lt
  have K0 : ∀ W, Below (w.alloc (.cells #[.int .i64 t.z, .slice na t.ns.length nc, vs] 26)).heap.size (w.alloc (.cells #[.int .i64 t.z, .slice na t.ns.length nc, vs] 26)) W → W.heap[w.heap.size]? = some (.cells #[.int .i64 t.z, .slice na t.ns.length nc, vs] 26 (0, 0)) := fun W hW => (hW.block _ (by simp)).trans (heap_alloc_new w _)
  have HK := hide K0
  have HXP := hide hxp
  clear hn hb hx K0 hxp
  go_enter Tryz.func52, Tryz.ntmps52
  go_wp2_with fail
  refine (unhide CS _).mono ?_
  rintro e w1 ⟨rfl, hb1⟩
  have T1 := unhide HK w1 hb1
  have B1 := hide (nnext (unhide B0) (nbox_then hb1))
  have X1 := hide ((unhide X0).next (nbox_then hb1))
  have c0 : w1.cell? ⟨w.heap.size, 0, none⟩ = some (.int .i64 t.z) := by simp [World.cell?, T1]
  have c1 : w1.cell? ⟨w.heap.size, 1, none⟩ = some (.slice na t.ns.length nc) := by simp [World.cell?, T1]
  have c2 : w1.cell? ⟨w.heap.size, 2, none⟩ = some vs := by simp [World.cell?, T1]
  clear hb1 T1 B0 X0 CS HK k3
  obtain ⟨D, hD⟩ : ∃ D, dirOf r.p = D := ⟨_, rfl⟩
  obtain ⟨S, hS⟩ : ∃ S, stepOf r.p = S := ⟨_, rfl⟩
  rw [hD] at CG hdl CJ ⊢
  rw [hS] at CN hsl ⊢
  have HD := hide hD
  have HS := hide hS
  clear hD hS
  go_wp2_with fail
  refine (unhide CG _ (unhide B1)).mono ?_
  rintro e w2 ⟨rfl, hb2⟩
  have B2 := hide (nnext (unhide B1) hb2)
  have X2 := hide ((unhide X1).next hb2)
  clear hb2 B1 X1 c0 c1 c2 CG
  cases hl : lookN t.ns D with
  | none =>
    obtain ⟨h1, h2⟩ := get_none hl
    have HL := hide hl
    rw [h1, h2]
    clear hl h1 h2
    unfold nzero
    simp only
    go_wp2_with fail
    go_ret
    exact givesFl_no (num_none (by rw [unhide HD]; exact unhide HL)) (by decide) rfl (nnext (unhide B2) (allocB _ _))
  | some n =>
    obtain ⟨h1, h2⟩ := get_some hl
    have HL := hide hl
    rw [h1, h2]
    clear hl h1 h2
    obtain ⟨np, nd, nc', nm, nq, nv, nk, no, nn⟩ := n
    simp only
    have B3 := hide (nnext (unhide B2) (allocB w2 (.cells #[.string ⟨np.toArray⟩, .string ⟨nd.toArray⟩, .int .i64 nc', .int .i64 nm, .int .i64 nq, .int .i64 nv, .int .i64 nk, .int .i64 no, .int .i64 nn] 52)))
    go_wp2_with fail
    refine (unhide CN nk _ (unhide B3)).mono ?_
    rintro e w3 ⟨rfl, hb3⟩
    rw [serS_list]
    have B4 := hide (nnext (unhide B3) hb3)
    have X4 := hide ((unhide X2).next (nbox_then hb3))
    have hml := serL_len S nk
    have CJ1 := hide (unhide CJ (serL S nk) (by omega))
    have NS : Hid (serE S nk ≠ 0 → numE t r = serE S nk) := hide (fun h => by
      have h' := num_ser (t := t) (r := r) (u := ⟨np, nd, nc', nm, nq, nv, nk, no, nn⟩) (by rw [unhide HD]; exact unhide HL) (by rw [unhide HS]; exact h)
      rw [unhide HS] at h'
      exact h')
    have NJ : Hid (serE S nk = 0 → numE t r = joinE D (serL S nk)) := hide (fun h => by
      have h' := num_join (t := t) (r := r) (u := ⟨np, nd, nc', nm, nq, nv, nk, no, nn⟩) (by rw [unhide HD]; exact unhide HL) (by rw [unhide HS]; exact h)
      rw [unhide HS, unhide HD] at h'
      exact h')
    have NP : Hid (numP t r = joinS D (serL S nk)) := hide (by
      rw [numP, unhide HD, unhide HS, cv_some (u := ⟨np, nd, nc', nm, nq, nv, nk, no, nn⟩) (by rw [unhide HD]; exact unhide HL)])
    clear hb3 B3 X2 B2 CN CJ HL HD HS
    generalize serL S nk = M at *
    generalize serE S nk = F at *
    by_cases hF : F = 0
    · subst hF
      have HN := hide (unhide NJ rfl)
      clear NS NJ
      go_wp2_with fail
      refine (unhide CJ1 _).mono ?_
      rintro e w4 ⟨rfl, hb4⟩
      have B5 := hide (nnext (unhide B4) hb4)
      have X5 := hide ((unhide X4).next hb4)
      have k3 := (unhide X5).c3
      have f3 := (unhide X5).f 3
      clear hb4 B4 X4 CJ1
      generalize joinS D M = J at *
      generalize joinE D M = G at *
      go_wp2_with fail
      go_ret
      refine ⟨?_, (unhide B5).setCell hg _, fun _ => ?_⟩
      · rw [unhide HN]; rfl
      · rw [unhide NP]; exact (unhide X5).p J
    · have hFb : (F != 0) = true := by simpa using hF
      have HN := hide (unhide NS hF)
      have HF := hide hF
      clear NS NJ hF
      go_wp2_with fail
      go_ret
      exact givesFl_no (unhide HN) (unhide HF) rfl (unhide B4)

end Go.Proofs.YtcplpbelficbeaaGreatDoor
