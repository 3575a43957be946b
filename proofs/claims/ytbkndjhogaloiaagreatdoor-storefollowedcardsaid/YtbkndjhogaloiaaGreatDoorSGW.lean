/-
  store.Follow, where it goes on: the walk.
-/
import Derived.Test.YtbkndjhogaloiaaGreatDoorSGV
namespace Go.Proofs.YtbkndjhogaloiaaGreatDoor
open Go.RowKit

/-- a transaction is taken, safe: what extended wants -/
structure TookX (s : Sv) (t : WTxn) (s' : Sv) : Prop where
  z : ¬ t.z ≤ lastZ s.ts
  p : t.p.length ≤ 140737488355328
  d : t.d.length ≤ 140737488355328
  n : s.ts.length ≤ 1000000000
  g : ∃ d1, s' = ⟨s.up, d1, s.id, s.ep, s.ts ++ [t], s.dn, s.tr, s.ws⟩ ∧ GivesF 41 (fun x => #[x, txnV t, .bool true]) s.fs d1 0
theorem fits_follow {s : Sv} (hf : Fits s) {d : List DF} (g : GoodD d) (e : Int) (k : Nat) : Fits ⟨s.up, d, s.id, e, s.ts.take k, s.dn, s.tr, s.ws⟩ :=
  ⟨by have := g.few; simp only; omega, good_slim g, by have := hf.l; simp only [List.length_take]; omega, fun x hx => hf.lf x (List.mem_of_mem_take hx), hf.n, hf.nf, hf.si, hf.wa, hf.wf⟩
theorem log_cap {w : World} {a : Option Addr} {c : Nat} {ts : List WTxn} (h : ∀ W, Below w.heap.size w W → LogV W (.slice a ts.length c) ts) : ts.length ≤ c := by
  rcases h w (Below.refl _ _) with ⟨a', cap, e, rfl, _⟩ | ⟨b, off, cap, e, h1, _⟩
  · simp
  · simp only [Value.slice.injEq] at e
    omega
/-- the box of the server that Follow has turned, its rows where they came in; the result's box -/
def SF0 (w W : World) (s : Sv) (al : Option Addr) (cl : Nat) (an : Option Addr) (cn : Nat) (ai : Option Addr) (ci : Nat) (aw : Option Addr) (cw : Nat) : Prop :=
  ∃ ad nd cd, CB w W s.up (.slice ad nd cd) s.id s.ep (.slice al s.ts.length cl) s.dn s.tr.z (.slice an s.tr.ns.length cn) (.slice ai s.tr.ss.length ci) (.slice aw s.ws.length cw) ∧
  SvV W (.agg #[.bool s.up, .slice ad nd cd, .int .i64 s.id, .int .i64 s.ep, .slice al s.ts.length cl, .int .i64 s.dn, .int .i64 s.tr.z, .slice an s.tr.ns.length cn, .slice ai s.tr.ss.length ci, .slice aw s.ws.length cw]) s
theorem SF0.next {w W V : World} {s : Sv} {al an ai aw : Option Addr} {cl cn ci cw : Nat} (h : SF0 w W s al cl an cn ai ci aw cw) (hb : Below W.heap.size W V) : SF0 w V s al cl an cn ai ci aw cw := by
  obtain ⟨ad, nd, cd, h1, h2⟩ := h
  exact ⟨ad, nd, cd, h1.next hb, h2.next hb⟩
theorem sf_start {w P : World} {s : Sv} {ts : List WTxn} {k : Nat} {ad ad0 al an ai aw : Option Addr} {nd cd nd0 cd0 cl cn ci cw : Nat} {ep0 : Int} (h : CB w P s.up (.slice ad0 nd0 cd0) s.id ep0 (.slice al ts.length cl) s.dn s.tr.z (.slice an s.tr.ns.length cn) (.slice ai s.tr.ss.length ci) (.slice aw s.ws.length cw)) (hd : DiskV P (.slice ad nd cd) s.fs)
    (hs : (∀ W, Below w.heap.size w W → LogV W (.slice al ts.length cl) ts) ∧ (∀ W, Below w.heap.size w W → SeqV W (.slice an s.tr.ns.length cn) s.tr.ns) ∧ (∀ W, Below w.heap.size w W → SeqV W (.slice ai s.tr.ss.length ci) s.tr.ss) ∧ ∀ W, Below w.heap.size w W → SeqV W (.slice aw s.ws.length cw) s.ws) (hk : k ≤ ts.length) (ht : s.ts = ts.take k := by rfl) :
    SF0 w (((P.setCell ⟨w.heap.size, 1, none⟩ (.slice ad nd cd)).setCell ⟨w.heap.size, 3, none⟩ (.int .i64 s.ep)).setCell ⟨w.heap.size, 4, none⟩ (.slice al k cl)) s al cl an cn ai ci aw cw := by
  have hlen : s.ts.length = k := by rw [ht]; simp; omega
  have hb := ((h.below.setCell (p := ⟨w.heap.size, 1, none⟩) (by simp) (.slice ad nd cd)).setCell (p := ⟨w.heap.size, 3, none⟩) (by simp) (.int .i64 s.ep)).setCell (p := ⟨w.heap.size, 4, none⟩) (by simp) (.slice al k cl)
  have u0 := h.s.dumb
  have u1 : Dumb (P.setCell ⟨w.heap.size, 1, none⟩ (.slice ad nd cd)) w.heap.size := u0.set (by simp)
  have u2 : Dumb ((P.setCell ⟨w.heap.size, 1, none⟩ (.slice ad nd cd)).setCell ⟨w.heap.size, 3, none⟩ (.int .i64 s.ep)) w.heap.size := u1.set (by simp)
  refine ⟨ad, nd, cd, by rw [hlen]; exact ((h.put 1 (.slice ad nd cd) rfl).putE s.ep).put 4 (.slice al k cl) rfl, _, _, _, _, _, rfl, disk_dumb (disk_dumb (disk_dumb hd u0 _) u1 _) u2 _, ?_, hs.2.1 _ hb, hs.2.2.1 _ hb, hs.2.2.2 _ hb⟩
  rw [hlen, ht]
  exact (hs.1 _ hb).take hk

/-- the box q of the server that grows in place: its log in a row of its own, apart from all else; the result's box -/
def LF (w W : World) (q : Nat) (s : Sv) : Prop :=
  ∃ ad nd cd al cl an cn ai ci aw cw, Below w.heap.size w W ∧ Box10 W (w.heap.size + 1) false (.slice none 0 0) 0 0 (.slice none 0 0) 0 0 (.slice none 0 0) (.slice none 0 0) (.slice none 0 0) ∧
    Box10 W q s.up (.slice ad nd cd) s.id s.ep (.slice al s.ts.length cl) s.dn s.tr.z (.slice an s.tr.ns.length cn) (.slice ai s.tr.ss.length ci) (.slice aw s.ws.length cw) ∧ w.heap.size + 2 ≤ q ∧
    DiskV W (.slice ad nd cd) s.fs ∧ OwnS W (w.heap.size + 2) (.slice al s.ts.length cl) s.ts ∧ OwnS W (w.heap.size + 2) (.slice an s.tr.ns.length cn) s.tr.ns ∧ OwnS W (w.heap.size + 2) (.slice ai s.tr.ss.length ci) s.tr.ss ∧ OwnS W (w.heap.size + 2) (.slice aw s.ws.length cw) s.ws ∧
    (∀ k, (Value.slice al s.ts.length cl).ownBlock = some k → k ≠ q ∧ (Value.slice an s.tr.ns.length cn).ownBlock ≠ some k ∧ (Value.slice ai s.tr.ss.length ci).ownBlock ≠ some k ∧ (Value.slice aw s.ws.length cw).ownBlock ≠ some k) ∧
    (Value.slice an s.tr.ns.length cn).ownBlock ≠ some q ∧ (Value.slice ai s.tr.ss.length ci).ownBlock ≠ some q ∧ (Value.slice aw s.ws.length cw).ownBlock ≠ some q
theorem own_low2 {α : Type} [Lay α] {W : World} {B k : Nat} {v : Value} {xs : List α} (h : OwnS W B v xs) (hk : W.heap.size ≤ k) : v.ownBlock ≠ some k := fun e => by have := h.low k e; omega
theorem lf_start {w W w1 : World} {s : Sv} {ad al an ai aw : Option Addr} {nd cd cl cn ci cw B1 B2 : Nat} (hW : Below w.heap.size w W) (hr : Box10 W (w.heap.size + 1) false (.slice none 0 0) 0 0 (.slice none 0 0) 0 0 (.slice none 0 0) (.slice none 0 0) (.slice none 0 0)) (h1 : W.heap.size ≤ B1) (h2 : B1 ≤ B2)
    (od : OwnS w1 W.heap.size (.slice ad nd cd) s.fs) (ol : OwnS w1 B1 (.slice al s.ts.length cl) s.ts) (hl2 : ∀ k, (Value.slice al s.ts.length cl).ownBlock = some k → k < B2) (on : OwnS w1 B2 (.slice an s.tr.ns.length cn) s.tr.ns) (oi : OwnS w1 B2 (.slice ai s.tr.ss.length ci) s.tr.ss) (ow : OwnS w1 B2 (.slice aw s.ws.length cw) s.ws) (hb : Below W.heap.size W w1) :
    LF w (w1.alloc (.cells #[.bool s.up, .slice ad nd cd, .int .i64 s.id, .int .i64 s.ep, .slice al s.ts.length cl, .int .i64 s.dn, .int .i64 s.tr.z, .slice an s.tr.ns.length cn, .slice ai s.tr.ss.length ci, .slice aw s.ws.length cw] 35)) w1.heap.size s := by
  have hl := hr.lt
  have hal := allocB w1 (.cells #[.bool s.up, .slice ad nd cd, .int .i64 s.id, .int .i64 s.ep, .slice al s.ts.length cl, .int .i64 s.dn, .int .i64 s.tr.z, .slice an s.tr.ns.length cn, .slice ai s.tr.ss.length ci, .slice aw s.ws.length cw] 35)
  refine ⟨ad, nd, cd, al, cl, an, cn, ai, ci, aw, cw, nnext (nnext hW hb) hal, (hr.next hb).next hal, Box10.new w1 s.up s.id s.ep s.dn s.tr.z _ _ _ _ _, by have := hb.size; omega, seq_disk.1 (od.next hal).seq, (ol.next hal).lower (by omega), (on.next hal).lower (by omega), (oi.next hal).lower (by omega), (ow.next hal).lower (by omega), fun k hk => ⟨?_, ?_, ?_, ?_⟩, own_low2 on (Nat.le_refl _), own_low2 oi (Nat.le_refl _), own_low2 ow (Nat.le_refl _)⟩
  · rintro rfl; exact own_low2 ol (Nat.le_refl _) hk
  · intro e; have := own_ge on e; have := hl2 k hk; omega
  · intro e; have := own_ge oi e; have := hl2 k hk; omega
  · intro e; have := own_ge ow e; have := hl2 k hk; omega
theorem LF.next {w W V : World} {q : Nat} {s : Sv} (h : LF w W q s) (hb : Below W.heap.size W V) : LF w V q s := by
  obtain ⟨ad, nd, cd, al, cl, an, cn, ai, ci, aw, cw, h1, h2, h3, h4, h5, h6, h7, h8, h9, h10⟩ := h
  exact ⟨ad, nd, cd, al, cl, an, cn, ai, ci, aw, cw, nnext h1 hb, h2.next hb, h3.next hb, h4, h5.next hb, h6.next hb, h7.next hb, h8.next hb, h9.next hb, h10⟩

theorem box10_put {W : World} {k : Nat} {up0 : Bool} {id0 ep0 dn0 z0 : Int} {vd0 vl0 vn0 vs0 vw0 : Value} (h : Box10 W k up0 vd0 id0 ep0 vl0 dn0 z0 vn0 vs0 vw0) (up : Bool) (id ep dn z : Int) (vd vl vn vs vw : Value) :
    Box10 (put10 W k (.bool up) vd (.int .i64 id) (.int .i64 ep) vl (.int .i64 dn) (.int .i64 z) vn vs vw) k up vd id ep vl dn z vn vs vw := by
  unfold Box10 at *
  unfold put10
  have e0 : ((W).setCell ⟨k, 0, none⟩ (.bool up)).heap[k]? = some (.cells #[.bool up, vd0, .int .i64 id0, .int .i64 ep0, vl0, .int .i64 dn0, .int .i64 z0, vn0, vs0, vw0] 35 (0, 0)) := block_set (j := 0) (.bool up) h
  have e1 : (((W).setCell ⟨k, 0, none⟩ (.bool up)).setCell ⟨k, 1, none⟩ (vd)).heap[k]? = some (.cells #[.bool up, vd, .int .i64 id0, .int .i64 ep0, vl0, .int .i64 dn0, .int .i64 z0, vn0, vs0, vw0] 35 (0, 0)) := block_set (j := 1) (vd) e0
  have e2 : ((((W).setCell ⟨k, 0, none⟩ (.bool up)).setCell ⟨k, 1, none⟩ (vd)).setCell ⟨k, 2, none⟩ (.int .i64 id)).heap[k]? = some (.cells #[.bool up, vd, .int .i64 id, .int .i64 ep0, vl0, .int .i64 dn0, .int .i64 z0, vn0, vs0, vw0] 35 (0, 0)) := block_set (j := 2) (.int .i64 id) e1
  have e3 : (((((W).setCell ⟨k, 0, none⟩ (.bool up)).setCell ⟨k, 1, none⟩ (vd)).setCell ⟨k, 2, none⟩ (.int .i64 id)).setCell ⟨k, 3, none⟩ (.int .i64 ep)).heap[k]? = some (.cells #[.bool up, vd, .int .i64 id, .int .i64 ep, vl0, .int .i64 dn0, .int .i64 z0, vn0, vs0, vw0] 35 (0, 0)) := block_set (j := 3) (.int .i64 ep) e2
  have e4 : ((((((W).setCell ⟨k, 0, none⟩ (.bool up)).setCell ⟨k, 1, none⟩ (vd)).setCell ⟨k, 2, none⟩ (.int .i64 id)).setCell ⟨k, 3, none⟩ (.int .i64 ep)).setCell ⟨k, 4, none⟩ (vl)).heap[k]? = some (.cells #[.bool up, vd, .int .i64 id, .int .i64 ep, vl, .int .i64 dn0, .int .i64 z0, vn0, vs0, vw0] 35 (0, 0)) := block_set (j := 4) (vl) e3
  have e5 : (((((((W).setCell ⟨k, 0, none⟩ (.bool up)).setCell ⟨k, 1, none⟩ (vd)).setCell ⟨k, 2, none⟩ (.int .i64 id)).setCell ⟨k, 3, none⟩ (.int .i64 ep)).setCell ⟨k, 4, none⟩ (vl)).setCell ⟨k, 5, none⟩ (.int .i64 dn)).heap[k]? = some (.cells #[.bool up, vd, .int .i64 id, .int .i64 ep, vl, .int .i64 dn, .int .i64 z0, vn0, vs0, vw0] 35 (0, 0)) := block_set (j := 5) (.int .i64 dn) e4
  have e6 : ((((((((W).setCell ⟨k, 0, none⟩ (.bool up)).setCell ⟨k, 1, none⟩ (vd)).setCell ⟨k, 2, none⟩ (.int .i64 id)).setCell ⟨k, 3, none⟩ (.int .i64 ep)).setCell ⟨k, 4, none⟩ (vl)).setCell ⟨k, 5, none⟩ (.int .i64 dn)).setCell ⟨k, 6, none⟩ (.int .i64 z)).heap[k]? = some (.cells #[.bool up, vd, .int .i64 id, .int .i64 ep, vl, .int .i64 dn, .int .i64 z, vn0, vs0, vw0] 35 (0, 0)) := block_set (j := 6) (.int .i64 z) e5
  have e7 : (((((((((W).setCell ⟨k, 0, none⟩ (.bool up)).setCell ⟨k, 1, none⟩ (vd)).setCell ⟨k, 2, none⟩ (.int .i64 id)).setCell ⟨k, 3, none⟩ (.int .i64 ep)).setCell ⟨k, 4, none⟩ (vl)).setCell ⟨k, 5, none⟩ (.int .i64 dn)).setCell ⟨k, 6, none⟩ (.int .i64 z)).setCell ⟨k, 7, none⟩ (vn)).heap[k]? = some (.cells #[.bool up, vd, .int .i64 id, .int .i64 ep, vl, .int .i64 dn, .int .i64 z, vn, vs0, vw0] 35 (0, 0)) := block_set (j := 7) (vn) e6
  have e8 : ((((((((((W).setCell ⟨k, 0, none⟩ (.bool up)).setCell ⟨k, 1, none⟩ (vd)).setCell ⟨k, 2, none⟩ (.int .i64 id)).setCell ⟨k, 3, none⟩ (.int .i64 ep)).setCell ⟨k, 4, none⟩ (vl)).setCell ⟨k, 5, none⟩ (.int .i64 dn)).setCell ⟨k, 6, none⟩ (.int .i64 z)).setCell ⟨k, 7, none⟩ (vn)).setCell ⟨k, 8, none⟩ (vs)).heap[k]? = some (.cells #[.bool up, vd, .int .i64 id, .int .i64 ep, vl, .int .i64 dn, .int .i64 z, vn, vs, vw0] 35 (0, 0)) := block_set (j := 8) (vs) e7
  have e9 : (((((((((((W).setCell ⟨k, 0, none⟩ (.bool up)).setCell ⟨k, 1, none⟩ (vd)).setCell ⟨k, 2, none⟩ (.int .i64 id)).setCell ⟨k, 3, none⟩ (.int .i64 ep)).setCell ⟨k, 4, none⟩ (vl)).setCell ⟨k, 5, none⟩ (.int .i64 dn)).setCell ⟨k, 6, none⟩ (.int .i64 z)).setCell ⟨k, 7, none⟩ (vn)).setCell ⟨k, 8, none⟩ (vs)).setCell ⟨k, 9, none⟩ (vw)).heap[k]? = some (.cells #[.bool up, vd, .int .i64 id, .int .i64 ep, vl, .int .i64 dn, .int .i64 z, vn, vs, vw] 35 (0, 0)) := block_set (j := 9) (vw) e8
  exact e9
theorem box10_far {W : World} {k q : Nat} {up0 : Bool} {id0 ep0 dn0 z0 : Int} {vd0 vl0 vn0 vs0 vw0 : Value} (h : Box10 W k up0 vd0 id0 ep0 vl0 dn0 z0 vn0 vs0 vw0) (hk : k ≠ q) (x0 x1 x2 x3 x4 x5 x6 x7 x8 x9 : Value) : Box10 (put10 W q x0 x1 x2 x3 x4 x5 x6 x7 x8 x9) k up0 vd0 id0 ep0 vl0 dn0 z0 vn0 vs0 vw0 := by
  unfold put10
  exact (Box10.other (Box10.other (Box10.other (Box10.other (Box10.other (Box10.other (Box10.other (Box10.other (Box10.other (Box10.other h hk) hk) hk) hk) hk) hk) hk) hk) hk) hk)
theorem Box10.touch {F : Nat → Prop} {W V : World} {k : Nat} {up : Bool} {id ep dn z : Int} {vd vl vn vs vw : Value} (h : Box10 W k up vd id ep vl dn z vn vs vw) (ht : Touch F W V) (hk : ¬ F k) : Box10 V k up vd id ep vl dn z vn vs vw := (ht.block k h.lt hk).trans h
theorem lf_step {w W V : World} {q : Nat} {s : Sv} {d1 : List DF} {tn : List WTxn} {ad al an ai aw a a2 : Option Addr} {nd cd cl cn ci cw n c c2 : Nat} (hb : Below w.heap.size w W) (hr : Box10 W (w.heap.size + 1) false (.slice none 0 0) 0 0 (.slice none 0 0) 0 0 (.slice none 0 0) (.slice none 0 0) (.slice none 0 0))
    (ha : Box10 W q s.up (.slice ad nd cd) s.id s.ep (.slice al s.ts.length cl) s.dn s.tr.z (.slice an s.tr.ns.length cn) (.slice ai s.tr.ss.length ci) (.slice aw s.ws.length cw)) (hq : w.heap.size + 2 ≤ q)
    (ol : OwnS W (w.heap.size + 2) (.slice al s.ts.length cl) s.ts) (on : OwnS W (w.heap.size + 2) (.slice an s.tr.ns.length cn) s.tr.ns) (oi : OwnS W (w.heap.size + 2) (.slice ai s.tr.ss.length ci) s.tr.ss) (ow : OwnS W (w.heap.size + 2) (.slice aw s.ws.length cw) s.ws)
    (sep : ∀ k, (Value.slice al s.ts.length cl).ownBlock = some k → k ≠ q ∧ (Value.slice an s.tr.ns.length cn).ownBlock ≠ some k ∧ (Value.slice ai s.tr.ss.length ci).ownBlock ≠ some k ∧ (Value.slice aw s.ws.length cw).ownBlock ≠ some k)
    (n1 : (Value.slice an s.tr.ns.length cn).ownBlock ≠ some q) (n2 : (Value.slice ai s.tr.ss.length ci).ownBlock ≠ some q) (n3 : (Value.slice aw s.ws.length cw).ownBlock ≠ some q)
    (ht : Touch (fun k => (Value.slice al s.ts.length cl).ownBlock = some k) W V) (D : DiskV V (.slice a n c) d1) (L : OwnS V (w.heap.size + 2) (.slice a2 tn.length c2) tn) (hl : (Value.slice a2 tn.length c2).ownBlock = (Value.slice al s.ts.length cl).ownBlock ∨ ∃ k, (Value.slice a2 tn.length c2).ownBlock = some k ∧ W.heap.size ≤ k) :
    Box10 V q s.up (.slice ad nd cd) s.id s.ep (.slice al s.ts.length cl) s.dn s.tr.z (.slice an s.tr.ns.length cn) (.slice ai s.tr.ss.length ci) (.slice aw s.ws.length cw) ∧
    LF w (put10 V q (.bool s.up) (.slice a n c) (.int .i64 s.id) (.int .i64 s.ep) (.slice a2 tn.length c2) (.int .i64 s.dn) (.int .i64 s.tr.z) (.slice an s.tr.ns.length cn) (.slice ai s.tr.ss.length ci) (.slice aw s.ws.length cw)) q ⟨s.up, d1, s.id, s.ep, tn, s.dn, s.tr, s.ws⟩ := by
  have ha' := ha.touch ht (fun e => (sep q e).1 rfl)
  have hr' := hr.touch ht (fun e => by have := own_ge ol e; omega)
  have hqW := ha.lt
  have hb' := hb.trans (ht.below (B := w.heap.size) hb.size (fun k hk => by have := own_ge ol hk; omega))
  have keepN := own_touch on ht (fun k hk hf => (sep k hf).2.1 hk)
  have keepI := own_touch oi ht (fun k hk hf => (sep k hf).2.2.1 hk)
  have keepW := own_touch ow ht (fun k hk hf => (sep k hf).2.2.2 hk)
  have lq : (Value.slice a2 tn.length c2).ownBlock ≠ some q := by
    intro e
    rcases hl with h | ⟨k, h, hk⟩
    · rw [h] at e; exact (sep q e).1 rfl
    · rw [h] at e; simp only [Option.some.injEq] at e; omega
  refine ⟨ha', a, n, c, a2, c2, an, cn, ai, ci, aw, cw, put10_below hb' (by omega) _ _ _ _ _ _ _ _ _ _, box10_far hr' (by omega) _ _ _ _ _ _ _ _ _ _, box10_put ha' _ _ _ _ _ _ _ _ _ _, hq, put10_disk ha'.dumb D, put10_own L lq _ _ _ _ _ _ _ _ _ _, put10_own keepN n1 _ _ _ _ _ _ _ _ _ _, put10_own keepI n2 _ _ _ _ _ _ _ _ _ _, put10_own keepW n3 _ _ _ _ _ _ _ _ _ _, fun k hk => ?_, n1, n2, n3⟩
  simp only at hk ⊢
  rcases hl with h | ⟨k', h, hk'⟩
  · rw [h] at hk; exact sep k hk
  · rw [h] at hk
    simp only [Option.some.injEq] at hk
    subst hk
    exact ⟨by omega, own_low2 on hk', own_low2 oi hk', own_low2 ow hk'⟩

set_option maxRecDepth 20000 in
set_option maxHeartbeats 4000000 in
theorem sfol_main (s : Sv) (v : Value) (vl : Value) (l : List WTxn) (epo : Int) (w : World) (hv : SvV w v s) (hvl : LogV w vl l) (hf : Fits s) (hll : l.length ≤ 1000000000) (ht : TabP w) (hk : ¬ (comN s.ts l : Int) < s.dn) (z : Int) (d2 d3 : List DF) (hz : FolZ l (comN s.ts l) z) (G : GivesD 15 (fun g => #[g, .int .i64 z]) s.fs d2 0) (R : GivesE 16 (fun g => #[g, .int .i64 epo]) d2 d3 0) (gd : GoodD d3) (st : Nat → Sv) (h0 : st 0 = ⟨s.up, d3, s.id, epo, s.ts.take (comN s.ts l), s.dn, s.tr, s.ws⟩) (HT : ∀ i x, (l.drop (comN s.ts l))[i]? = some x → TookX (st i) x (st (i + 1))) :
    Calls Tryz.prog 7 #[v, vl, .int .i64 epo] w (GivesVF w (st (l.drop (comN s.ts l)).length) 0) := by
  obtain ⟨ad, nd, cd, al, cl, an, cn, ai, ci, aw, cw, rfl, d1, l1, n1, s1, k1⟩ := hv.five
  have CC := hide (fun W (hW : Below w.heap.size w W) => common_any _ vl s.ts l W (l1.next hW) (hvl.next hW) (by have := hf.l; omega) (by omega))
  have HG := hide (fun W (hW : Below w.heap.size w W) => G _ W (d1.next hW))
  have HLR := hide (fun (j : Nat) (x : WTxn) (hx : l[j]? = some x) W (hW : Below w.heap.size w W) => log_row (hvl.next hW) hx)
  obtain ⟨lb, lc, rfl⟩ := log_slice hvl
  have HR := hide R
  have HTK := hide HT
  have HLV := hide (fun W (hW : Below w.heap.size w W) => hvl.next hW)
  have HS0 := hide (And.intro (fun W (hW : Below w.heap.size w W) => l1.next hW) (And.intro (fun W (hW : Below w.heap.size w W) => n1.next hW) (And.intro (fun W (hW : Below w.heap.size w W) => s1.next hW) (fun W (hW : Below w.heap.size w W) => k1.next hW))))
  have HFit := hide (fits_follow hf gd epo (comN s.ts l))
  have HTab := hide (fun W (hW : Below w.heap.size w W) => ht.next hW)
  clear hv d1 l1 n1 s1 k1 hvl hf G R ht HT gd
  obtain ⟨up, fs, id, ep, ts, dn, ⟨tz, tns, tss⟩, ws⟩ := s
  simp only at *
  go_enter Tryz.func7, Tryz.ntmps7
  go_wp2_with fail
  have X0 := hide (CB.start w up id ep dn tz (.slice ad nd cd) (.slice al ts.length cl) (.slice an tns.length cn) (.slice ai tss.length ci) (.slice aw ws.length cw))
  generalize (w.alloc (.cells #[.bool up, .slice ad nd cd, .int .i64 id, .int .i64 ep, .slice al ts.length cl, .int .i64 dn, .int .i64 tz, .slice an tns.length cn, .slice ai tss.length ci, .slice aw ws.length cw] 35)).alloc (.cells #[.bool false, .slice none 0 0, .int .i64 0, .int .i64 0, .slice none 0 0, .int .i64 0, .int .i64 0, .slice none 0 0, .slice none 0 0, .slice none 0 0] 35) = W0 at *
  refine (unhide CC _ (unhide X0).below).mono ?_
  rintro e w1 ⟨rfl, hb1⟩
  have X1 := hide ((unhide X0).next hb1)
  have x5 := (unhide X1).s.cells.2.2.2.2.2.1
  clear hb1 X0 CC
  have x1 := (unhide X1).s.cells.2.1
  have hkl := (comN_le ts l).2
  have hkt := (comN_le ts l).1
  generalize comN ts l = k at *
  have hnk : ¬ ((k : Int) < dn) := by omega
  go_upto_if 27 with fail
  go_cut [9] from 15 (fun t9 wx => t9 = .int .i64 z ∧ wx = w1)
  case first =>
    rcases hz with ⟨rfl, rfl⟩ | ⟨x, hk0, hx, rfl⟩
    · go_wp2_with fail
      go_meet
      exact ⟨rfl, rfl⟩
    · obtain ⟨m, rfl⟩ : ∃ m, k = m + 1 := ⟨k - 1, by omega⟩
      simp only [Nat.add_sub_cancel] at hx
      obtain ⟨b, o, c, he, hb, q, hm1, _⟩ := unhide HLR m x hx w1 (unhide X1).below
      simp only [Value.slice.injEq] at he
      obtain ⟨rfl, _, rfl⟩ := he
      have e0 := q.z hx
      generalize x.z = z at *
      have i1 : (m : Int) < (l.length : Int) := by omega
      have i2 : (0 : Int) < ((m + 1 : Nat) : Int) := by omega
      have i3 : IntKind.i64.wrap (((m + 1 : Nat) : Int) - 1) = (m : Int) := by rw [IntKind.wrap_i64]; omega
      have i4 : (((m + 1 : Nat) : Int) - 1) = (m : Int) := by omega
      clear q hx
      go_wp2_with fail
      go_meet
      exact ⟨rfl, rfl⟩
  case rest =>
    obtain ⟨rfl, rfl⟩ := hcut
    clear HLR
    go_wp2_with fail
    refine (unhide HG _ (unhide X1).below).mono ?_
    rintro e w2 ⟨a2, n2, c2, rfl, D2, hb2⟩
    have hal := allocB w2 (.cells #[.slice a2 n2 c2] 26)
    have X2 := hide (((unhide X1).next hb2).next hal)
    have A2 := hide (BoxAt.new w2 (.slice a2 n2 c2))
    have F2 := hide ((unhide D2).next hal)
    have Q2 := hide (show w.heap.size + 2 ≤ w2.heap.size from ((unhide X1).next hb2).lt)
    clear hb2 hal X1 D2 HG x1 x5
    have ca := (unhide A2).c
    have fa := (unhide A2).f
    go_wp2_with fail
    generalize w2.heap.size = q2 at *
    generalize w2.alloc (.cells #[.slice a2 n2 c2] 26) = W2 at *
    refine (unhide HR _ _ (unhide HTab _ (unhide X2).below) (unhide F2)).mono ?_
    rintro e w3 ⟨a3, n3, c3, rfl, D3, hb3⟩
    have X3 := (unhide X2).next hb3
    have A3 := (unhide A2).next hb3
    have ca3 := A3.c
    have fa3 := A3.f
    have Y3 := X3.dput q2 (.slice a3 n3 c3) (by have := unhide Q2; omega)
    have E3 := disk_box (unhide D3) A3 (.slice a3 n3 c3)
    have B3 := A3.set (.slice a3 n3 c3)
    have HX3 := hide Y3
    have HD3 := hide E3
    have HA3 := hide B3
    clear hb3 X2 A2 F2 D3 X3 A3 Y3 E3 B3 HR ca fa
    go_upto_region 13 with fail
    generalize w3.setCell ⟨q2, 0, none⟩ (.slice a3 n3 c3) = W3 at *
    clear ca3 fa3
    have hcap : ts.length ≤ cl := log_cap (unhide HS0).1
    have ca5 := (unhide HA3).c
    have x4 := (unhide HX3).s.cells.2.2.2.2.1
    have x1 := (unhide HX3).s.cells.2.1
    have x3 := (unhide HX3).s.cells.2.2.2.1
    have xf1 := (unhide HX3).s.froz 1
    have xf3 := (unhide HX3).s.froz 3
    have xf4 := (unhide HX3).s.froz 4
    have hnq : q2 ≠ w.heap.size := by have := unhide Q2; omega
    have k0 : (0 : Int) ≤ (k : Int) := by omega
    have kk1 : (k : Int) ≤ (cl : Int) := by omega
    have k2 : k ≤ cl := by omega
    have RF4 := hide (sf_start (s := ⟨up, d3, id, epo, ts.take k, dn, ⟨tz, tns, tss⟩, ws⟩) (unhide HX3) (unhide HD3) (unhide HS0) hkt)
    go_cut [14] from 16 (fun _ wx => Hid (SF0 w wx ⟨up, d3, id, epo, ts.take k, dn, ⟨tz, tns, tss⟩, ws⟩ al cl an cn ai ci aw cw))
    case first =>
      go_region
      all_goals go_wp2_with fail
      all_goals go_meet
      all_goals exact hide ((unhide RF4).next (Below.refl _ _).drew)
    case rest =>
      have HRF := hcut
      clear hcut RF4 ca5 x4 x1 x3 xf1 xf3 xf4 HX3 HD3 HA3
      generalize ts.take k = tk at *
      obtain ⟨ad4, nd4, cd4, CB4, SV4⟩ := unhide HRF
      simp only at CB4 SV4
      obtain ⟨x0, x1, x2, x3, x4, x5, x6, x7, x8, x9⟩ := CB4.s.cells
      have CPY := hide (scopied_any (⟨up, d3, id, epo, tk, dn, ⟨tz, tns, tss⟩, ws⟩ : Sv) _ wc SV4 (unhide HFit))
      have HBR := hide (And.intro CB4.below CB4.r)
      clear SV4 CB4 HRF HFit HS0
      go_wp2_with fail
      refine (unhide CPY).mono ?_
      rintro e w5 ⟨bd, md, fd, bl, fl, bn, fn, bi, fi, bw, fw, B1, B2, rfl, h1, h2, od, hd1, ol, hl2, on, oi, ow, hb5⟩
      simp only at od ol hl2 on oi ow
      have LF5 := hide (lf_start (s := (⟨up, d3, id, epo, tk, dn, ⟨tz, tns, tss⟩, ws⟩ : Sv)) (unhide HBR).1 (unhide HBR).2 h1 h2 od ol hl2 on oi ow hb5)
      simp only at LF5
      clear h1 h2 od hd1 ol hl2 on oi ow hb5 HBR CPY x0 x1 x2 x3 x4 x5 x6 x7 x8 x9
      go_upto_region 15 with fail
      generalize w5.heap.size = q5 at *
      generalize w5.alloc (.cells #[.bool up, .slice bd md fd, .int .i64 id, .int .i64 epo, .slice bl tk.length fl, .int .i64 dn, .int .i64 tz, .slice bn tns.length fn, .slice bi tss.length fi, .slice bw ws.length fw] 35) = W5 at *
      go_cut [71, 72, 73] from 15 (fun t71 t72 t73 wx => ∃ la lcc, t71 = .slice la (l.length - k) lcc ∧ t72 = .int .i64 ((l.length - k : Nat) : Int) ∧ t73 = .int .i64 0 ∧ wx = W5 ∧ Hid (∀ W, Below w.heap.size w W → LogV W (.slice la (l.length - k) lcc) (l.drop k)))
      case first =>
        by_cases hlc : lc = k
        · subst hlc
          go_wp2_with fail
          all_goals go_meet
          all_goals exact ⟨_, _, rfl, rfl, rfl, rfl, hide fun W hW => ((unhide HLV W hW).drop hkl).1 rfl⟩
        · go_wp2_with fail
          all_goals go_meet
          all_goals exact ⟨_, _, rfl, rfl, rfl, rfl, hide fun W hW => ((unhide HLV W hW).drop hkl).2 hlc⟩
      case rest =>
        obtain ⟨la, lcc, rfl, rfl, rfl, rfl, HLD⟩ := hcut
        clear HLV hcap hnq k0 kk1 k2 hkt
        go_wp2_with fail
        go_loopg [73] (l.length - k) (fun kx s73 wr => ∃ i : Nat, s73 = .int .i64 i ∧ i ≤ l.length - k ∧ l.length - k - i ≤ kx ∧ Hid (LF w wr q5 (st i)))
        case atStart => exact ⟨0, rfl, Nat.zero_le _, by omega, hide (by rw [h0]; exact unhide LF5)⟩
        case round =>
          obtain ⟨i, rfl, hi, hgi, hR⟩ := hrel
          by_cases hlt : i < l.length - k
          · clear h0 LF5
            obtain ⟨x, hx⟩ : ∃ x, (l.drop k)[i]? = some x := ⟨_, List.getElem?_eq_getElem (by simp; omega)⟩
            obtain ⟨gad, gnd, gcd, gal, gcl, gan, gcn, gai, gci, gaw, gcw, hbw, hr, ha, hq, hd, ol, on, oi, ow, sep, n1, n2, n3⟩ := unhide hR
            obtain ⟨b, o, c, he, hb, q, hq9⟩ := log_row (unhide HLD wr hbw) hx
            simp only [Value.slice.injEq] at he
            obtain ⟨rfl, he2, rfl⟩ := he
            clear he2 hq9
            have e0 := q.z hx
            have e1 := q.o hx
            have e2 := q.s hx
            have e3 := q.p hx
            have e4 := q.d hx
            have e5 := q.v hx
            have e6 := q.w hx
            obtain ⟨tz', tp', td', tn', d1, hst, G⟩ := unhide HTK i x hx
            obtain ⟨xz, xo, xs, xp, xd, xv, xw⟩ := x
            have hal := allocB wr (.cells #[.int .i64 xz, .int .i64 xo, .int .i64 xs, .string ⟨xp.toArray⟩, .string ⟨xd.toArray⟩, .int .i64 xv, .int .i64 xw] 47)
            have CT := hide (ext_ok (st i).up (st i).id (st i).ep (st i).dn (st i).tr.z (st i).fs (st i).ts (⟨xz, xo, xs, xp, xd, xv, xw⟩ : WTxn) true (.slice gad gnd gcd) (.slice gal (st i).ts.length gcl) gan gai gaw (st i).tr.ns.length gcn (st i).tr.ss.length gci (st i).ws.length gcw _ (hd.next hal) (seq_log.1 (ol.next hal).seq) tz' d1 (w.heap.size + 2) (by have := ha.lt; have := hal.size; omega) (ol.next hal) tn' tp' td' G)
            unfold txnV at CT
            simp only at e0 e1 e2 e3 e4 e5 e6 CT
            have LS := hide (fun V a n c a2 c2 (tn : List WTxn) (T : Touch _ _ V) (D : DiskV V (.slice a n c) d1) (L : OwnS V (w.heap.size + 2) (.slice a2 tn.length c2) tn) hl => lf_step (s := (st i)) (nnext hbw hal) (hr.next hal) (ha.next hal) hq (ol.next hal) (on.next hal) (oi.next hal) (ow.next hal) sep n1 n2 n3 T D L hl)
            obtain ⟨x0, x1, x2, x3, x4, x5, x6, x7, x8, x9⟩ := (ha.next hal).cells
            have hlti : (i : Int) < ((l.length - k : Nat) : Int) := by omega
            clear q hx hal hbw hr ha hd ol on oi ow sep n1 n2 n3 hR tz' tp' td' tn' G
            go_wp2_with fail
            generalize wr.alloc (.cells #[.int .i64 xz, .int .i64 xo, .int .i64 xs, .string ⟨xp.toArray⟩, .string ⟨xd.toArray⟩, .int .i64 xv, .int .i64 xw] 47) = W6 at *
            refine (unhide CT).mono ?_
            rintro e w7 ⟨a7, n7, c7, b7, f7, rfl, D7, L7, hl7, T7⟩
            obtain ⟨HA7, LF7⟩ := unhide LS w7 a7 n7 c7 b7 f7 ((st i).ts ++ [(⟨xz, xo, xs, xp, xd, xv, xw⟩ : WTxn)]) T7 D7 L7 hl7
            rw [← hst] at LF7
            generalize (st i).ts ++ [(⟨xz, xo, xs, xp, xd, xv, xw⟩ : WTxn)] = tn at *
            have HLF7 := hide LF7
            clear x0 x1 x2 x3 x4 x5 x6 x7 x8 x9
            obtain ⟨x0, x1, x2, x3, x4, x5, x6, x7, x8, x9⟩ := HA7.cells
            have xf0 := HA7.froz 0
            have xf1 := HA7.froz 1
            have xf2 := HA7.froz 2
            have xf3 := HA7.froz 3
            have xf4 := HA7.froz 4
            have xf5 := HA7.froz 5
            have xf6 := HA7.froz 6
            have xf7 := HA7.froz 7
            have xf8 := HA7.froz 8
            have xf9 := HA7.froz 9
            clear LF7 D7 L7 hl7 T7 HA7 LS CT hst e0 e1 e2 e3 e4 e5 e6
            unfold put10 at HLF7
            go_wp2_with fail
            go_roundg (l.length - k - (i + 1))
            case measure => omega
            case rel => exact ⟨i + 1, rfl, by omega, Nat.le_refl _, HLF7⟩
          · obtain rfl : i = l.length - k := by omega
            obtain ⟨gad, gnd, gcd, gal, gcl, gan, gcn, gai, gci, gaw, gcw, hbw, hr, ha, hq, hd, ol, on, oi, ow, sep, n1, n2, n3⟩ := unhide hR
            obtain ⟨x0, x1, x2, x3, x4, x5, x6, x7, x8, x9⟩ := ha.cells
            obtain ⟨r0, r1, r2, r3, r4, r5, r6, r7, r8, r9⟩ := hr.cells
            have rf0 := hr.froz 0
            have rf1 := hr.froz 1
            have rf2 := hr.froz 2
            have rf3 := hr.froz 3
            have rf4 := hr.froz 4
            have rf5 := hr.froz 5
            have rf6 := hr.froz 6
            have rf7 := hr.froz 7
            have rf8 := hr.froz 8
            have rf9 := hr.froz 9
            have PN := hide (put10_new (s := st (l.length - k)) hr.dumb hd (seq_log.1 ol.seq) on.seq oi.seq (away_own oi (by omega)) ow.seq)
            have HB9 := hide hbw
            have FR9 := hide (fresh_ownS oi)
            have hdl : (l.drop k).length = l.length - k := by simp
            clear hbw hr ha hd ol on oi ow sep n1 n2 n3 hR
            go_wp2_with fail
            refine bodyPost_ret (v := .tuple #[.agg #[.bool (st (l.length - k)).up, .slice gad gnd gcd, .int .i64 (st (l.length - k)).id, .int .i64 (st (l.length - k)).ep, .slice gal (st (l.length - k)).ts.length gcl, .int .i64 (st (l.length - k)).dn, .int .i64 (st (l.length - k)).tr.z, .slice gan (st (l.length - k)).tr.ns.length gcn, .slice gai (st (l.length - k)).tr.ss.length gci, .slice gaw (st (l.length - k)).ws.length gcw], .int .i64 0]) (by simp [results, Tryz.results7, go_sem, r0, r1, r2, r3, r4, r5, r6, r7, r8, r9]) rfl ?_
            rw [hdl]
            exact ⟨gad, gnd, gcd, gal, _, gcl, gan, _, gcn, gai, _, gci, gaw, _, gcw, rfl, hide ⟨unhide PN, (unhide FR9).lower (by omega)⟩, put10_below (unhide HB9) (by omega) _ _ _ _ _ _ _ _ _ _⟩

end Go.Proofs.YtbkndjhogaloiaaGreatDoor
