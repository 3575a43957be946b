/-
  A log as a plain list of transactions: its bytes, what bytes begin with, and where that ends. No program is named here.
  How a log lies in memory: a row of transactions, seven cells each; a row of the call's own; what stays when other memory turns.
  What growth's set does: the walks.
-/
import Derived.Test.YtcplpbelficbeaaGreatDoorRQA
import Derived.Test.YtcplpbelficbeaaGreatDoorRQH
import Derived.Test.YtcplpbelficbeaaGreatDoorRQD
import Derived.Test.YtcplpbelficbeaaGreatDoorRQJ
namespace Go.Proofs.YtcplpbelficbeaaGreatDoor
open Go.RowKit

def recsL : List WTxn → List UInt8
  | [] => []
  | t :: l => recL t ++ recsL l
def lastZ (l : List WTxn) : Int := l.foldl (fun _ t => t.z) 0
theorem lastZ_snoc (l : List WTxn) (t : WTxn) : lastZ (l ++ [t]) = t.z := by simp [lastZ]
/-- may it stand behind these? -/
def follB (l : List WTxn) (t : WTxn) : Bool := decide (l.length = 0) || decide (lastZ l < t.z)
theorem follB_some {l : List WTxn} {t : WTxn} (h : l.length ≠ 0) : follB l t = decide (lastZ l < t.z) := by simp [follB, h]
theorem snoc_of {l : List WTxn} (h : l.length ≠ 0) : ∃ m x, l = m ++ [x] := by
  rcases List.eq_nil_or_concat l with rfl | ⟨m, x, rfl⟩
  · exact absurd rfl h
  · exact ⟨m, x, List.concat_eq_append⟩
structure Logs (ts : List WTxn) : Prop where
  good : ∀ t ∈ ts, gdE t = 0
  rise : ts.Pairwise fun a b => a.z < b.z
theorem Logs.nil : Logs [] := ⟨by simp, List.Pairwise.nil⟩
theorem Logs.left {a b : List WTxn} (h : Logs (a ++ b)) : Logs a := ⟨fun t ht => h.good t (by simp [ht]), (List.pairwise_append.1 h.rise).1⟩
theorem Logs.at {a b : List WTxn} {t : WTxn} (h : Logs (a ++ t :: b)) : gdE t = 0 ∧ follB a t = true := by
  refine ⟨h.good t (by simp), ?_⟩
  by_cases h0 : a.length = 0
  · simp [follB, h0]
  · rw [follB_some h0]
    obtain ⟨m, x, rfl⟩ := snoc_of h0
    rw [lastZ_snoc]
    exact decide_eq_true ((List.pairwise_append.1 h.rise).2.2 x (by simp) t (by simp))
/-- bytes begin with these, and there it stops -/
structure Scan (s : List UInt8) (ts : List WTxn) (r : List UInt8) : Prop where
  eq : s = recsL ts ++ r
  log : Logs ts
  stop : decE r ≠ 0 ∨ follB ts (decT r) = false
theorem Scan.len {s r : List UInt8} {ts : List WTxn} (h : Scan s ts r) : (recsL ts).length + r.length = s.length := by rw [h.eq, List.length_append]
end Go.Proofs.YtcplpbelficbeaaGreatDoor

namespace Go.Proofs.YtcplpbelficbeaaGreatDoor
open Go.RowKit

def tcells (t : WTxn) : List Value := [.int .i64 t.z, .int .i64 t.o, .int .i64 t.s, .string ⟨t.p.toArray⟩, .string ⟨t.d.toArray⟩, .int .i64 t.v, .int .i64 t.w]
def cellsT : List WTxn → List Value
  | [] => []
  | t :: r => tcells t ++ cellsT r
theorem cellsT_append : ∀ a b : List WTxn, cellsT (a ++ b) = cellsT a ++ cellsT b
  | [], _ => rfl
  | t :: r, b => by rw [List.cons_append, cellsT, cellsT, cellsT_append r b, List.append_assoc]
theorem cellsT_snoc (a : List WTxn) (t : WTxn) : cellsT (a ++ [t]) = cellsT a ++ tcells t := by rw [cellsT_append, cellsT, cellsT, List.append_nil]
theorem cellsT_get : ∀ (ts : List WTxn) (i : Nat) (t : WTxn), ts[i]? = some t → ∀ c, c < 7 → (cellsT ts)[i * 7 + c]? = (tcells t)[c]?
  | [], i, t, h, _, _ => by simp at h
  | x :: r, 0, t, h, c, hc => by
    simp at h
    subst h
    rw [cellsT, List.getElem?_append_left (by simp [tcells]; omega)]
    simp
  | x :: r, i + 1, t, h, c, hc => by
    rw [cellsT, List.getElem?_append_right (by simp [tcells]; omega), ← cellsT_get r i t (by simpa using h) c hc]
    congr 1
    simp [tcells]; omega
theorem tcells_one (t : WTxn) : ∀ u ∈ tcells t, u.oneCell' = true := by
  intro u hu
  simp [tcells] at hu
  rcases hu with rfl | rfl | rfl | rfl | rfl | rfl | rfl <;> rfl

theorem RowAt.z {w : World} {b off : Nat} {ts : List WTxn} (h : RowAt w b off (cellsT ts)) {i : Nat} {t : WTxn} (hi : ts[i]? = some t) : w.cell? ⟨b, off + i * 7, none⟩ = some (.int .i64 t.z) :=
  h (i * 7) _ (by have := cellsT_get ts i t hi 0 (by omega); simpa [tcells] using this)
theorem RowAt.o {w : World} {b off : Nat} {ts : List WTxn} (h : RowAt w b off (cellsT ts)) {i : Nat} {t : WTxn} (hi : ts[i]? = some t) : w.cell? ⟨b, off + i * 7 + 1, none⟩ = some (.int .i64 t.o) := by
  rw [Nat.add_assoc]; exact h (i * 7 + 1) _ (by have := cellsT_get ts i t hi 1 (by omega); simpa [tcells] using this)
theorem RowAt.s {w : World} {b off : Nat} {ts : List WTxn} (h : RowAt w b off (cellsT ts)) {i : Nat} {t : WTxn} (hi : ts[i]? = some t) : w.cell? ⟨b, off + i * 7 + 2, none⟩ = some (.int .i64 t.s) := by
  rw [Nat.add_assoc]; exact h (i * 7 + 2) _ (by have := cellsT_get ts i t hi 2 (by omega); simpa [tcells] using this)
theorem RowAt.p {w : World} {b off : Nat} {ts : List WTxn} (h : RowAt w b off (cellsT ts)) {i : Nat} {t : WTxn} (hi : ts[i]? = some t) : w.cell? ⟨b, off + i * 7 + 3, none⟩ = some (.string ⟨t.p.toArray⟩) := by
  rw [Nat.add_assoc]; exact h (i * 7 + 3) _ (by have := cellsT_get ts i t hi 3 (by omega); simpa [tcells] using this)
theorem RowAt.d {w : World} {b off : Nat} {ts : List WTxn} (h : RowAt w b off (cellsT ts)) {i : Nat} {t : WTxn} (hi : ts[i]? = some t) : w.cell? ⟨b, off + i * 7 + 4, none⟩ = some (.string ⟨t.d.toArray⟩) := by
  rw [Nat.add_assoc]; exact h (i * 7 + 4) _ (by have := cellsT_get ts i t hi 4 (by omega); simpa [tcells] using this)
theorem RowAt.v {w : World} {b off : Nat} {ts : List WTxn} (h : RowAt w b off (cellsT ts)) {i : Nat} {t : WTxn} (hi : ts[i]? = some t) : w.cell? ⟨b, off + i * 7 + 5, none⟩ = some (.int .i64 t.v) := by
  rw [Nat.add_assoc]; exact h (i * 7 + 5) _ (by have := cellsT_get ts i t hi 5 (by omega); simpa [tcells] using this)
theorem RowAt.w {w : World} {b off : Nat} {ts : List WTxn} (h : RowAt w b off (cellsT ts)) {i : Nat} {t : WTxn} (hi : ts[i]? = some t) : w.cell? ⟨b, off + i * 7 + 6, none⟩ = some (.int .i64 t.w) := by
  rw [Nat.add_assoc]; exact h (i * 7 + 6) _ (by have := cellsT_get ts i t hi 6 (by omega); simpa [tcells] using this)

/-- the value holds these transactions -/
def LogV (w : World) (v : Value) (ts : List WTxn) : Prop :=
  (∃ a cap, v = .slice a 0 cap ∧ ts = [] ∧ cap ≤ maxLen) ∨
  ∃ b off cap, v = .slice (some ⟨b, off, none⟩) ts.length cap ∧ ts.length ≤ cap ∧ cap ≤ maxLen ∧ b < w.heap.size ∧ ts ≠ [] ∧ RowAt w b off (cellsT ts)
theorem LogV.kept {w w' : World} {B : Nat} {v : Value} {ts : List WTxn} (h : LogV w v ts) (hb : Below B w w') (hB : w.heap.size ≤ B) : LogV w' v ts := by
  rcases h with h | ⟨b, off, cap, rfl, h1, h2, h3, h0, h4⟩
  · exact .inl h
  · exact .inr ⟨b, off, cap, rfl, h1, h2, Nat.lt_of_lt_of_le h3 hb.size, h0, h4.kept hb (Nat.lt_of_lt_of_le h3 hB)⟩
theorem LogV.next {w w' : World} {v : Value} {ts : List WTxn} (h : LogV w v ts) (hb : Below w.heap.size w w') : LogV w' v ts := h.kept hb (Nat.le_refl _)
theorem LogV.alloc {w : World} {v : Value} {ts : List WTxn} (h : LogV w v ts) (o : Obj) : LogV (w.alloc o) v ts := h.next ((Below.refl _ _).alloc (Nat.le_refl _) o)
theorem LogV.drew {w : World} {v : Value} {ts : List WTxn} (h : LogV w v ts) : LogV w.drew v ts := h.next (Below.refl _ _).drew
theorem LogV.nil (w : World) : LogV w (.slice none 0 0) [] := .inl ⟨none, 0, rfl, rfl, by decide⟩
/-- a value that holds these in a row of the call's own, at or behind block B -/
def OwnL (W : World) (B : Nat) (v : Value) (ts : List WTxn) : Prop := W.ownsRow B 32 7 v ts.length (cellsT ts)
theorem OwnL.nil (W : World) (B : Nat) : OwnL W B (.slice none 0 0) [] := ⟨rfl, .inl ⟨rfl, rfl⟩⟩
theorem OwnL.log {W : World} {B : Nat} {v : Value} {ts : List WTxn} (h : OwnL W B v ts) : LogV W v ts := by
  obtain ⟨hl, ⟨rfl, h0⟩ | ⟨g, cap, cur, rfl, hB, hg, hn, hm, hs, ht⟩⟩ := h
  · rw [List.eq_nil_of_length_eq_zero h0]; exact LogV.nil W
  · by_cases h0 : ts = []
    · subst h0; exact .inl ⟨_, cap, rfl, rfl, hm⟩
    · refine .inr ⟨g, 0, cap, rfl, hn, hm, (Array.getElem?_eq_some_iff.1 hg).1, h0, fun j v hj => ?_⟩
      have hlt : j < (cellsT ts).length := (List.getElem?_eq_some_iff.1 hj).1
      have : cur[j]? = some v := by
        rw [← ht, List.getElem?_take_of_lt (by rw [hl] at hlt; exact hlt)] at hj
        simpa using hj
      simp [World.cell?, hg, this]
theorem OwnL.next {W V : World} {B : Nat} {v : Value} {ts : List WTxn} (h : OwnL W B v ts) (hb : Below W.heap.size W V) : OwnL V B v ts := by
  obtain ⟨hl, h | ⟨g, cap, cur, e, hB, hg, hr⟩⟩ := h
  · exact ⟨hl, .inl h⟩
  · exact ⟨hl, .inr ⟨g, cap, cur, e, hB, (hb.block _ (Array.getElem?_eq_some_iff.1 hg).1).trans hg, hr⟩⟩
theorem OwnL.mono {W : World} {B C : Nat} {v : Value} {ts : List WTxn} (h : OwnL W B v ts) (hC : C ≤ B) : OwnL W C v ts := by
  obtain ⟨hl, h | ⟨g, cap, cur, e, hB, hr⟩⟩ := h
  · exact ⟨hl, .inl h⟩
  · exact ⟨hl, .inr ⟨g, cap, cur, e, Nat.le_trans hC hB, hr⟩⟩
theorem OwnL.more {W : World} {B : Nat} {v : Value} {ts : List WTxn} {t : WTxn} (h : W.ownsRow B 32 7 v (ts.length + 1) (cellsT ts ++ tcells t)) : OwnL W B v (ts ++ [t]) := by
  unfold OwnL
  rw [cellsT_snoc, List.length_append]
  exact h

/-- block g holds one transaction -/
def TAt (W : World) (g : Nat) (t : WTxn) : Prop := W.heap[g]? = some (.cells #[.int .i64 t.z, .int .i64 t.o, .int .i64 t.s, .string ⟨t.p.toArray⟩, .string ⟨t.d.toArray⟩, .int .i64 t.v, .int .i64 t.w] 32 (0, 0))
theorem TAt.new (W : World) (t : WTxn) : TAt (W.alloc (.cells #[.int .i64 t.z, .int .i64 t.o, .int .i64 t.s, .string ⟨t.p.toArray⟩, .string ⟨t.d.toArray⟩, .int .i64 t.v, .int .i64 t.w] 32)) W.heap.size t := heap_alloc_new W _
theorem TAt.next {W V : World} {g : Nat} {t : WTxn} (h : TAt W g t) (hb : Below W.heap.size W V) : TAt V g t := (hb.block g (by unfold TAt at h; exact (Array.getElem?_eq_some_iff.1 h).1)).trans h
theorem TAt.lt {W : World} {g : Nat} {t : WTxn} (h : TAt W g t) : g < W.heap.size := by unfold TAt at h; exact (Array.getElem?_eq_some_iff.1 h).1
theorem TAt.c0 {W : World} {g : Nat} {t : WTxn} (h : TAt W g t) : W.cell? ⟨g, 0, none⟩ = some (.int .i64 t.z) := by unfold TAt at h; simp [World.cell?, h]
theorem TAt.c1 {W : World} {g : Nat} {t : WTxn} (h : TAt W g t) : W.cell? ⟨g, 1, none⟩ = some (.int .i64 t.o) := by unfold TAt at h; simp [World.cell?, h]
theorem TAt.c2 {W : World} {g : Nat} {t : WTxn} (h : TAt W g t) : W.cell? ⟨g, 2, none⟩ = some (.int .i64 t.s) := by unfold TAt at h; simp [World.cell?, h]
theorem TAt.c3 {W : World} {g : Nat} {t : WTxn} (h : TAt W g t) : W.cell? ⟨g, 3, none⟩ = some (.string ⟨t.p.toArray⟩) := by unfold TAt at h; simp [World.cell?, h]
theorem TAt.c4 {W : World} {g : Nat} {t : WTxn} (h : TAt W g t) : W.cell? ⟨g, 4, none⟩ = some (.string ⟨t.d.toArray⟩) := by unfold TAt at h; simp [World.cell?, h]
theorem TAt.c5 {W : World} {g : Nat} {t : WTxn} (h : TAt W g t) : W.cell? ⟨g, 5, none⟩ = some (.int .i64 t.v) := by unfold TAt at h; simp [World.cell?, h]
theorem TAt.c6 {W : World} {g : Nat} {t : WTxn} (h : TAt W g t) : W.cell? ⟨g, 6, none⟩ = some (.int .i64 t.w) := by unfold TAt at h; simp [World.cell?, h]
theorem TAt.f {W : World} {g : Nat} {t : WTxn} (h : TAt W g t) (j : Nat) : W.frozen? ⟨g, j, none⟩ = false := by unfold TAt at h; simp [World.frozen?, h]
end Go.Proofs.YtcplpbelficbeaaGreatDoor

namespace Go.Proofs.YtcplpbelficbeaaGreatDoor
open Go.RowKit

set_option maxRecDepth 20000 in
set_option maxHeartbeats 2000000 in
theorem set_gap (F : Nat → Prop) (b : Nat) (z : Int) (vn vs ve : Value) (ns A B : List Nd) (ss : List Int) (es : List Ev) (x : WTxn) (w : World)
    (h : Grow w F b z vn vs ve ns ss es) (G : NGap ns A B x.p) (hl : ns.length ≤ 400) :
    Calls Tryz.prog 42 #[.pointer (some ⟨b, 0, none⟩), txnV x] w fun e w' => e = .returned (.int .i64 7) ∧ Touch F w w' := by
  obtain ⟨xz, xo, xs, xp, xd, xv, xw⟩ := x
  simp only at G
  have CF := fun W (hW : Below w.heap.size w W) => nfind_gap vn ns A B xp W (h.n.next hW).seq (by omega) G
  have c1 := h.c1
  have hbl := h.lt
  obtain ⟨na, nc, rfl, _⟩ := h.n.slice
  clear h G
  unfold txnV
  go_enter Tryz.func42, Tryz.ntmps42
  go_wp2_with fail
  go_region_law (first
    | (go_simp; refine (CF _ (by first | exact ((Below.refl w.heap.size w).alloc (Nat.le_refl _) _).drew | exact (Below.refl w.heap.size w).alloc (Nat.le_refl _) _)).mono ?_; rintro e w1 ⟨rfl, hb1⟩; have HB1 : Hid (Below w.heap.size w w1) := (by first | exact nbox_then (nbelow_drew hb1) | exact nbox_then hb1); clear hb1))
  all_goals go_wp2_with fail
  all_goals go_ret
  all_goals exact ⟨rfl, Touch.of_below (unhide HB1)⟩

set_option maxRecDepth 20000 in
set_option maxHeartbeats 4000000 in
theorem set_ok (F : Nat → Prop) (b : Nat) (z : Int) (vn vs ve : Value) (ns A B : List Nd) (n : Nd) (ss : List Int) (es : List Ev) (x : WTxn) (w : World)
    (h : Grow w F b z vn vs ve ns ss es) (hF : ∀ k, w.heap.size ≤ k → F k) (T : NThere ns A n B x.p) (hl : ns.length ≤ 400) (hv : 0 ≤ n.v ∧ n.v ≤ 2147483647) (hp : x.p.length ≤ 140737488355328) (hd : x.d.length ≤ 140737488355328) (hes : es.length ≤ 99999) (hx : x.v = n.v + 1) :
    Calls Tryz.prog 42 #[.pointer (some ⟨b, 0, none⟩), txnV x] w fun e w' =>
      e = .returned (.int .i64 0) ∧ ∃ ve', Grow w' F b z vn vs ve' (A ++ ⟨n.p, x.d, n.c, x.z, n.q, x.v, n.k, n.o, n.n⟩ :: B) ss (es ++ [⟨3, x.p⟩]) ∧ Touch F w w' := by
  obtain ⟨xz, xo, xs, xp, xd, xv, xw⟩ := x
  simp only at T hp hd hx ⊢
  have hxb : (xv != n.v + 1) = false := by simpa using hx
  clear hx
  have CF := fun W (hW : Below w.heap.size w W) => nfind_there vn ns A B n xp W (h.n.next hW).seq (by omega) T
  have CC := fun W => nclone_any xd W (by omega)
  obtain ⟨g, cap, rfl, hr, hgb, hFg⟩ := h.nrow (by rw [T.eq]; simp)
  have hgl := hr.lt
  have c1 := h.c1
  have hbl := h.lt
  have HG := hide h
  have HE := hide T.eq
  have HF := hide hF
  have hlt : A.length < ns.length := by rw [T.eq]; simp
  have hv1 := hv.1
  have hv2 := hv.2
  have KX : ∀ w1, Below (w.alloc (.cells #[.int .i64 xz, .int .i64 xo, .int .i64 xs, .string ⟨xp.toArray⟩, .string ⟨xd.toArray⟩, .int .i64 xv, .int .i64 xw] 32)).heap.size (w.alloc (.cells #[.int .i64 xz, .int .i64 xo, .int .i64 xs, .string ⟨xp.toArray⟩, .string ⟨xd.toArray⟩, .int .i64 xv, .int .i64 xw] 32)) w1 → TAt w1 w.heap.size ⟨xz, xo, xs, xp, xd, xv, xw⟩ := fun w1 h1 => (TAt.new w ⟨xz, xo, xs, xp, xd, xv, xw⟩).next h1
  have HKX := hide KX
  clear h hr T hF KX
  unfold txnV
  go_enter Tryz.func42, Tryz.ntmps42
  go_wp2_with fail
  go_region_law (first
    | (go_simp; refine (CF _ (by first | exact ((Below.refl w.heap.size w).alloc (Nat.le_refl _) _).drew | exact (Below.refl w.heap.size w).alloc (Nat.le_refl _) _)).mono ?_; rintro e w1 ⟨rfl, hb1⟩; have HBd := hide hb1; clear hb1))
  all_goals
    have HB0 := hide (nbelow_drew (unhide HBd))
    clear CF
    have HB1 := hide (nbox_then (unhide HB0))
    have tx := unhide HKX w1 (unhide HB0)
    have t0 := tx.c0
    have t3 := tx.c3
    have t4 := tx.c4
    have t5 := tx.c5
    have HTX := hide tx
    have g1 := (unhide HG).next (unhide HB1)
    have d1 := g1.c1
    have hsz1 := (unhide HB1).size
    have hszx := tx.lt
    obtain ⟨g', cap', he, hr, _, _⟩ := g1.nrow (by rw [unhide HE]; simp)
    simp only [Value.slice.injEq, Option.some.injEq, Addr.mk.injEq, and_true] at he
    obtain ⟨rfl, _, rfl⟩ := he
    have at' : ns[A.length]? = some n := by rw [unhide HE]; exact nat_at A n B
    have r5 := hr.row.n5 at'
    rw [Nat.zero_add] at r5
    have HG1 := hide g1
    clear g1 hr at' tx
    go_wp2_with fail
    go_region
    go_wp2_with fail
    refine (CC _).mono ?_
    rintro e w2 ⟨rfl, hb2⟩
    have hb2' := nbelow_drew hb2
    have g2 := (unhide HG1).next hb2'
    obtain ⟨g', cap', he, hr, _, _⟩ := g2.nrow (by rw [unhide HE]; simp)
    simp only [Value.slice.injEq, Option.some.injEq, Addr.mk.injEq, and_true] at he
    obtain ⟨rfl, _, rfl⟩ := he
    have at' : ns[A.length]? = some n := by rw [unhide HE]; exact nat_at A n B
    have r1 := hr.row.n1 at'
    have r3 := hr.row.n3 at'
    have r5' := hr.row.n5 at'
    have z1 := hr.frozen (A.length * 9 + 1)
    have z3 := hr.frozen (A.length * 9 + 3)
    have z5 := hr.frozen (A.length * 9 + 5)
    rw [Nat.zero_add] at r1 r3 r5'
    have tx2 := (unhide HTX).next hb2'
    have y0 := tx2.c0
    have y3 := tx2.c3
    have y5 := tx2.c5
    have hne : g ≠ w.heap.size := by omega
    have hne' : w.heap.size ≠ g := by omega
    have g4 : Grow (((w2.setCell ⟨g, A.length * 9 + 1, none⟩ (.string ⟨xd.toArray⟩)).setCell ⟨g, A.length * 9 + 5, none⟩ (.int .i64 xv)).setCell ⟨g, A.length * 9 + 3, none⟩ (.int .i64 xz)) F b z (.slice (some ⟨g, 0, none⟩) ns.length cap) vs ve (A ++ ⟨n.p, xd, n.c, xz, n.q, xv, n.k, n.o, n.n⟩ :: B) ss es := by
      have e0 := g2
      rw [unhide HE] at e0
      have e1 := e0.put (m := ⟨n.p, xd, n.c, n.m, n.q, n.v, n.k, n.o, n.n⟩) (c := 1) (by omega) (v := .string ⟨xd.toArray⟩) rfl
      have e2 := e1.put (m := ⟨n.p, xd, n.c, n.m, n.q, xv, n.k, n.o, n.n⟩) (c := 5) (by omega) (v := .int .i64 xv) rfl
      have e3 := e2.put (m := ⟨n.p, xd, n.c, xz, n.q, xv, n.k, n.o, n.n⟩) (c := 3) (by omega) (v := .int .i64 xz) rfl
      rw [unhide HE]
      exact e3
    have T4 : Touch F w (((w2.setCell ⟨g, A.length * 9 + 1, none⟩ (.string ⟨xd.toArray⟩)).setCell ⟨g, A.length * 9 + 5, none⟩ (.int .i64 xv)).setCell ⟨g, A.length * 9 + 3, none⟩ (.int .i64 xz)) :=
      ((((Touch.of_below (unhide HB1)).trans (Touch.of_below hb2')).trans (Touch.set hFg _)).trans (Touch.set hFg _)).trans (Touch.set hFg _)
    have HG4 := hide g4
    have HT4 := hide T4
    have CT := fun W (hW : Grow W F b z (.slice (some ⟨g, 0, none⟩) ns.length cap) vs ve (A ++ ⟨n.p, xd, n.c, xz, n.q, xv, n.k, n.o, n.n⟩ :: B) ss es) (hs : w.heap.size ≤ W.heap.size) => tell_any F b z _ vs ve _ ss es 3 xp W hW (fun k hk => unhide HF k (by omega)) hp (by omega)
    have HCT := hide CT
    clear CC g2 hr hb2 hb2' at' g4 T4 CT tx2 t0 t3 t4 t5 d1 r5
    go_wp2_with fail
    refine (unhide HCT _ (unhide HG4) (unhide HT4).size).mono ?_
    rintro e w5 ⟨rfl, ve', g5, t5⟩
    have HG5 := hide g5
    have HT5 := hide ((unhide HT4).trans t5)
    clear g5 t5
    go_wp2_with fail
    go_ret
    exact ⟨rfl, ve', unhide HG5, unhide HT5⟩

set_option maxRecDepth 20000 in
set_option maxHeartbeats 4000000 in
theorem set_ver (F : Nat → Prop) (b : Nat) (z : Int) (vn vs ve : Value) (ns A B : List Nd) (n : Nd) (ss : List Int) (es : List Ev) (x : WTxn) (w : World)
    (h : Grow w F b z vn vs ve ns ss es) (hF : ∀ k, w.heap.size ≤ k → F k) (T : NThere ns A n B x.p) (hl : ns.length ≤ 400) (hv : 0 ≤ n.v ∧ n.v ≤ 2147483647) (hp : x.p.length ≤ 140737488355328) (hd : x.d.length ≤ 140737488355328) (_hes : es.length ≤ 99999) (hx : x.v ≠ n.v + 1) :
    Calls Tryz.prog 42 #[.pointer (some ⟨b, 0, none⟩), txnV x] w fun e w' =>
      e = .returned (.int .i64 9) ∧ Touch F w w' := by
  obtain ⟨xz, xo, xs, xp, xd, xv, xw⟩ := x
  simp only at T hp hd hx ⊢
  have hxb : (xv != n.v + 1) = true := by simpa using hx
  clear hx
  have CF := fun W (hW : Below w.heap.size w W) => nfind_there vn ns A B n xp W (h.n.next hW).seq (by omega) T
  have CC := fun W => nclone_any xd W (by omega)
  obtain ⟨g, cap, rfl, hr, hgb, hFg⟩ := h.nrow (by rw [T.eq]; simp)
  have hgl := hr.lt
  have c1 := h.c1
  have hbl := h.lt
  have HG := hide h
  have HE := hide T.eq
  have HF := hide hF
  have hlt : A.length < ns.length := by rw [T.eq]; simp
  have hv1 := hv.1
  have hv2 := hv.2
  have KX : ∀ w1, Below (w.alloc (.cells #[.int .i64 xz, .int .i64 xo, .int .i64 xs, .string ⟨xp.toArray⟩, .string ⟨xd.toArray⟩, .int .i64 xv, .int .i64 xw] 32)).heap.size (w.alloc (.cells #[.int .i64 xz, .int .i64 xo, .int .i64 xs, .string ⟨xp.toArray⟩, .string ⟨xd.toArray⟩, .int .i64 xv, .int .i64 xw] 32)) w1 → TAt w1 w.heap.size ⟨xz, xo, xs, xp, xd, xv, xw⟩ := fun w1 h1 => (TAt.new w ⟨xz, xo, xs, xp, xd, xv, xw⟩).next h1
  have HKX := hide KX
  clear h hr T hF KX
  unfold txnV
  go_enter Tryz.func42, Tryz.ntmps42
  go_wp2_with fail
  go_region_law (first
    | (go_simp; refine (CF _ (by first | exact ((Below.refl w.heap.size w).alloc (Nat.le_refl _) _).drew | exact (Below.refl w.heap.size w).alloc (Nat.le_refl _) _)).mono ?_; rintro e w1 ⟨rfl, hb1⟩; have HBd := hide hb1; clear hb1))
  all_goals
    have HB0 := hide (nbelow_drew (unhide HBd))
    clear CF
    have HB1 := hide (nbox_then (unhide HB0))
    have tx := unhide HKX w1 (unhide HB0)
    have t0 := tx.c0
    have t3 := tx.c3
    have t4 := tx.c4
    have t5 := tx.c5
    have HTX := hide tx
    have g1 := (unhide HG).next (unhide HB1)
    have d1 := g1.c1
    have hsz1 := (unhide HB1).size
    have hszx := tx.lt
    obtain ⟨g', cap', he, hr, _, _⟩ := g1.nrow (by rw [unhide HE]; simp)
    simp only [Value.slice.injEq, Option.some.injEq, Addr.mk.injEq, and_true] at he
    obtain ⟨rfl, _, rfl⟩ := he
    have at' : ns[A.length]? = some n := by rw [unhide HE]; exact nat_at A n B
    have r5 := hr.row.n5 at'
    rw [Nat.zero_add] at r5
    have HG1 := hide g1
    clear g1 hr at' tx
    go_wp2_with fail
    go_region
    go_wp2_with fail
    go_ret
    exact ⟨rfl, (Touch.of_below (unhide HB1)).drew⟩

end Go.Proofs.YtcplpbelficbeaaGreatDoor
