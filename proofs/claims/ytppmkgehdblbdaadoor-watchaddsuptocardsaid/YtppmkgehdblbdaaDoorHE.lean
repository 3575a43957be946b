/-
  What aviarykeep's kept, sameWatches (of alike ones) and tells answer: the walks.
  The law WatchDropped: the walk.
-/
import Derived.Test.YtppmkgehdblbdaaDoorHD
import Derived.Laws.StructEq
import Derived.Deep.QuietTactic
namespace Go.Proofs.YtppmkgehdblbdaaDoor
open Go.RowKit

set_option maxHeartbeats 1000000 in
theorem kept_some (a : Addr) (cap : Nat) (ws : List Wa) (w : World) (hl : ws.length * 32 ≤ 140737488355328) (hc : ∀ j u, (cellsL ws)[j]? = some u → w.cell? (a.add j) = some u) :
    Calls Tryd.prog 11 #[.slice (some a) ws.length cap] w fun e w' => ∃ v', e = .returned v' ∧ OwnS w' w.heap.size v' ws ∧ Below w.heap.size w w' := by
  obtain ⟨i0, hi0, hz0, hz1, hz2⟩ := winfo
  have HR := hide hc
  clear hc
  go_enter Tryd.func11, Tryd.ntmps11
  go_wp2_with (at_builtin; refine wpList_append_own _ rfl _ _ 22 rfl w.heap.size 24 i0 _ 3 32 Tryd.underlying22 hi0 hz0 hz1 hz2 rfl (by decide) _ 0 [] rfl (World.ownsRow_nil _ _ _ _) a ws.length cap (cellsL ws) rfl (cellsL_length ws) ?qc2 (cellsL_one ws) ?qc4 ?qc5 ?qc6 ?_)
  case qc2 => exact unhide HR
  case qc4 => simp only [maxLen]; omega
  case qc5 => omega
  case qc6 => exact Nat.le_refl _
  intro v' w1 hown hgrow _
  have HO : Hid (OwnS w1 w.heap.size v' ws) := hide (OwnS.of_row (α := Wa) hown)
  have HB : Hid (Below w.heap.size w w1) := hide (grownO hgrow _ (Nat.le_refl _) (by intro k hk; cases hk))
  clear hown hgrow
  go_wp2
  go_ret
  exact ⟨_, rfl, unhide HO, unhide HB⟩
set_option maxHeartbeats 400000 in
theorem kept_nil (cap : Nat) (w : World) :
    Calls Tryd.prog 11 #[.slice none 0 cap] w fun e w' => ∃ v', e = .returned v' ∧ OwnS w' w.heap.size v' ([] : List Wa) ∧ Below w.heap.size w w' := by
  go_enter Tryd.func11, Tryd.ntmps11
  go_wp2_with fail
  go_ret
  exact ⟨_, rfl, .inl ⟨rfl, rfl⟩, Below.refl _ _⟩
theorem kept_any (v : Value) (ws : List Wa) (w : World) (hv : SeqV w v ws) (hl : ws.length * 32 ≤ 140737488355328) :
    Calls Tryd.prog 11 #[v] w fun e w' => ∃ v', e = .returned v' ∧ OwnS w' w.heap.size v' ws ∧ Below w.heap.size w w' := by
  rcases hv with ⟨a, cap, rfl, rfl, _⟩ | ⟨b, off, cap, rfl, _, _, hb, _, hr⟩
  · cases a with
    | none => exact kept_nil cap w
    | some a => exact kept_some a cap [] w (by simp) (fun j u h => by simp [cellsL_nil] at h)
  · exact kept_some ⟨b, off, none⟩ cap ws w hl (fun j u h => by rw [Addr.add_lit]; exact hr j u h)

set_option maxRecDepth 20000 in
set_option maxHeartbeats 2000000 in
theorem ksameW_any (va vb : Value) (ws : List Wa) (w : World) (ha : SeqV w va ws) (hb : SeqV w vb ws) (hl : ws.length ≤ 140737488355328) :
    Calls Tryd.prog 13 #[va, vb] w fun e w' => e = .returned (.bool true) ∧ Below w.heap.size w w' := by
  have K : ∀ (v : Value), SeqV w v ws → ∀ W, Below w.heap.size w W → ∀ (i : Nat) (x : Wa), ws[i]? = some x → ∃ b off c, v = .slice (some ⟨b, off, none⟩) ws.length c ∧ b < w.heap.size ∧ RowAt W b off (cellsL ws) := by
    intro v hv W hW i x hx
    obtain ⟨b, off, c, e, hb, hr, _, _⟩ := seq_row hv (by intro h0; rw [h0] at hx; simp at hx)
    exact ⟨b, off, c, e, hb, hr.kept hW hb⟩
  have K1 := hide (K va ha)
  have K2 := hide (K vb hb)
  obtain ⟨aa, ac, rfl⟩ := seq_slice ha
  obtain ⟨ba, bc, rfl⟩ := seq_slice hb
  clear ha hb K
  go_enter Tryd.func13, Tryd.ntmps13
  go_wp2_with fail
  go_loopg [5] ws.length (fun kx s5 wr => ∃ k : Nat, s5 = .int .i64 k ∧ k ≤ ws.length ∧ ws.length - k ≤ kx ∧ Hid (Below w.heap.size w wr))
  case atStart => exact ⟨0, rfl, Nat.zero_le _, Nat.le_refl _, hide (Below.refl _ _)⟩
  case round =>
    obtain ⟨k, rfl, hk, hg, hB⟩ := hrel
    by_cases hlt : k < ws.length
    · obtain ⟨x, hx⟩ : ∃ x, ws[k]? = some x := ⟨_, List.getElem?_eq_getElem hlt⟩
      obtain ⟨b1, o1, cc1, he, hb1, q1⟩ := unhide K1 wr (unhide hB) k x hx
      simp only [Value.slice.injEq] at he
      obtain ⟨rfl, _, rfl⟩ := he
      obtain ⟨b2, o2, cc2, he, hb2, q2⟩ := unhide K2 wr (unhide hB) k x hx
      simp only [Value.slice.injEq] at he
      obtain ⟨rfl, _, rfl⟩ := he
      have d0 := q1.w0 hx
      have d1 := q1.w1 hx
      have d2 := q1.w2 hx
      have r0 := q2.w0 hx
      have r1 := q2.w1 hx
      have r2 := q2.w2 hx
      have hlti : (k : Int) < (ws.length : Int) := by omega
      clear q1 q2 hx
      go_wp2_with fail
      go_region
      go_wp2_with fail
      go_roundg (ws.length - (k + 1))
      case measure => omega
      case rel => exact ⟨k + 1, rfl, by omega, Nat.le_refl _, hide (nnext (unhide hB) (Below.refl _ _).drew)⟩
    · obtain rfl : k = ws.length := by omega
      go_wp2_with fail
      go_ret
      exact ⟨rfl, unhide hB⟩

theorem seq_one {α : Type} [Lay α] {W : World} {g : Nat} {x : α} (h : OneR W g x) : SeqV W (.slice (some ⟨g, 0, none⟩) 1 1) [x] := by
  refine .inr ⟨g, 0, 1, rfl, Nat.le_refl _, by simp [maxLen], (Array.getElem?_eq_some_iff.1 h).1, by simp, fun j v hj => ?_⟩
  exact h.row j v (by simpa [cellsL] using hj)

set_option maxHeartbeats 1000000 in
theorem tells_any (w : World) :
    Calls Tryd.prog 12 #[] w fun e w' => e = .returned (.bool true) ∧ Below w.heap.size w w' := by
  have C : Hid (∀ W1 W2 : World, Below w.heap.size w W1 → OneR W2 W1.heap.size (⟨3, [47]⟩ : Ev) → ∀ g, OneR W2 g (⟨1, 1, [47]⟩ : Wa) → Calls Tryd.prog 21 #[.slice (some ⟨g, 0, none⟩) 1 1, .slice (some ⟨W1.heap.size, 0, none⟩) 1 1] W2 fun r w' =>
      ∃ na nc g, r = .returned (.tuple #[.slice na 1 nc, .slice (some ⟨g, 0, none⟩) 0 2]) ∧ Below W2.heap.size W2 w') := hide (fun W1 W2 _ h1 g h2 => by
    refine (fire_any _ _ [⟨1, 1, [47]⟩] [⟨3, [47]⟩] W2 (seq_one h2) (seq_one h1) (fun x hx => ?_) (fun x hx => ?_) (by simp) (by simp)).mono ?_
    · simp at hx; subst hx; simp
    · simp at hx; subst hx; simp
    · rintro r w' ⟨vn, vl, rfl, h3, ⟨g', rfl, _, h4⟩, h5⟩
      obtain ⟨a, c, rfl, _⟩ := h3.slice
      exact ⟨a, c, g', rfl, h5⟩)
  go_enter Tryd.func12, Tryd.ntmps12
  go_wp2_with fail
  have hz : (w.alloc (.cells #[.int .i64 1, .int .i64 1, .string ⟨#[47]⟩] 24)).heap.size = w.heap.size + 1 := by simp
  have h1 : OneR ((w.alloc (.cells #[.int .i64 1, .int .i64 1, .string ⟨#[47]⟩] 24)).alloc (.cells #[.int .i64 3, .string ⟨#[47]⟩] 43)) w.heap.size (⟨1, 1, [47]⟩ : Wa) := ((allocB _ _).block _ (by simp)).trans (one_newW w ⟨1, 1, [47]⟩)
  have h2 := one_new (w.alloc (.cells #[.int .i64 1, .int .i64 1, .string ⟨#[47]⟩] 24)) 3 [47]
  have CF := unhide C (w.alloc (.cells #[.int .i64 1, .int .i64 1, .string ⟨#[47]⟩] 24)) _ (allocB _ _) h2 w.heap.size h1
  rw [hz] at CF
  refine CF.mono ?_
  rintro r w1 ⟨na, nc, g, rfl, hb⟩
  have HB := hide (nnext (nnext (allocB _ _) (allocB _ _)) hb)
  clear CF hb h1 h2 hz C
  go_wp2_with fail
  go_ret
  exact ⟨rfl, unhide HB⟩

end Go.Proofs.YtppmkgehdblbdaaDoor

namespace Go.Proofs.YtppmkgehdblbdaaDoor
open Go.RowKit

theorem drop_get {ws : List Wa} {s : Int} {i : Nat} {x : Wa} (h : ws[i]? = some x) (hx : x.s ≠ s) : (dropW ws s)[(dropW (ws.take i) s).length]? = some x ∧ dropW (ws.take (i + 1)) s = dropW (ws.take i) s ++ [x] := by
  have e : ws = ws.take i ++ x :: ws.drop (i + 1) := by
    obtain ⟨h1, h2⟩ := List.getElem?_eq_some_iff.1 h
    rw [← h2]; simp
  refine ⟨?_, ?_⟩
  · have : dropW ws s = dropW (ws.take i) s ++ x :: dropW (ws.drop (i + 1)) s := by
      conv => lhs; rw [e]
      simp [dropW, hx]
    rw [this]; simp
  · rw [snoc_take h]; simp [dropW, hx]
theorem drop_skip {ws : List Wa} {s : Int} {i : Nat} {x : Wa} (h : ws[i]? = some x) (hx : x.s = s) : dropW (ws.take (i + 1)) s = dropW (ws.take i) s := by
  rw [snoc_take h]; simp [dropW, hx]
theorem short_drop {ws : List Wa} (h : Short ws) (s : Int) : Short (dropW ws s) := fun x hx => h x (List.mem_filter.1 hx).1
theorem ownr_seq {α : Type} [Lay α] {W : World} {g cap : Nat} {xs : List α} (h : OwnR W g cap xs) : SeqV W (.slice (some ⟨g, 0, none⟩) xs.length cap) xs := OwnS.seq (B := 0) (.inr ⟨g, cap, rfl, Nat.zero_le _, h⟩)

end Go.Proofs.YtppmkgehdblbdaaDoor
