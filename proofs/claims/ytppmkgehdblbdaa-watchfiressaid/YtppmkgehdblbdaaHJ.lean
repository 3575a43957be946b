/-
  The law WatchFires: the walk.
-/
import Derived.Test.YtppmkgehdblbdaaHH
import Derived.Test.YtppmkgehdblbdaaHI
import Derived.Test.YtppmkgehdblbdaaHF
namespace Go.Proofs.Ytppmkgehdblbdaa
open Go.RowKit

theorem fire_one {w : World} (W1 W2 : World) (h1 : OneR W2 W1.heap.size (⟨3, [47]⟩ : Ev)) (g : Nat) (h2 : OneR W2 g (⟨1, 1, [47]⟩ : Wa)) (_ : Below w.heap.size w W1) : Calls Try.prog 7 #[.slice (some ⟨g, 0, none⟩) 1 1, .slice (some ⟨W1.heap.size, 0, none⟩) 1 1] W2 fun r w' =>
      ∃ na nc g, r = .returned (.tuple #[.slice na 1 nc, .slice (some ⟨g, 0, none⟩) 0 2]) ∧ Below W2.heap.size W2 w' := by
  refine (fire_any _ _ [⟨1, 1, [47]⟩] [⟨3, [47]⟩] W2 (seq_one h2) (seq_one h1) (fun x hx => ?_) (fun x hx => ?_) (by simp) (by simp)).mono ?_
  · simp at hx; subst hx; simp
  · simp at hx; subst hx; simp
  · rintro r w' ⟨vn, vl, rfl, h3, ⟨g', rfl, _, h4⟩, h5⟩
    obtain ⟨a, c, rfl, _⟩ := h3.slice
    exact ⟨a, c, g', rfl, h5⟩

set_option maxRecDepth 20000 in
set_option maxHeartbeats 4000000 in
theorem watchFires_walk (v u : Value) (ws : List Wa) (es : List Ev) (w : World) (hv : SeqV w v ws) (hu : SeqV w u es) (hs : Short ws) (he : ShortE es) (hl : ws.length * 32 ≤ 140737488351232) (hle : es.length * 24 ≤ 140737488351232) :
    Calls Try.prog 3 #[v, u] w fun e w' => e = .returned (.bool true) ∧ Below w.heap.size w w' := by
  have C1 := wats_any v ws w hv (by omega)
  have hfl := fire_len es ws
  have CF := hide (fun W v' u' (h : SeqV W v' ws) (h' : SeqV W u' es) => fire_any v' u' ws es W h h' hs he hl (by omega))
  have CG := hide (fun W v' u' (h : SeqV W v' ws) (h' : SeqV W u' es) => rfire_any v' u' ws es W h h' hl (by omega))
  have C5 := hide (fun W va vb (h : SeqV W va (fireW ws es)) (h' : SeqV W vb (fireW ws es)) => rsameW_any va vb (fireW ws es) W h h' (by omega))
  have C6 := hide (fun W va vb (h : SeqV W va (fireN ws es)) (h' : SeqV W vb (fireN ws es)) => rsameN_any va vb (fireN ws es) W h h' (by omega))
  have HU := hide (fun W (hW : Below w.heap.size w W) => hu.next hW)
  have HV := hide (fun W (hW : Below w.heap.size w W) => hv.next hW)
  obtain ⟨va, vc, rfl⟩ := seq_slice hv
  obtain ⟨ua, uc, rfl⟩ := seq_slice hu
  obtain ⟨N, hN⟩ : ∃ N, fireN ws es = N := ⟨_, rfl⟩
  obtain ⟨L, hL⟩ : ∃ L, fireW ws es = L := ⟨_, rfl⟩
  rw [hN] at CF CG C6 hfl
  rw [hL] at CF CG C5 hfl
  clear hv hu hs he hN hL
  go_enter Try.func3, Try.ntmps3
  go_wp2_with fail
  refine C1.mono ?_
  rintro e w1 ⟨v1, rfl, ho1, hb1⟩
  have HB1 := hide hb1
  have HS1 := hide (fun W (hW : Below w1.heap.size w1 W) => ho1.seq.next hW)
  obtain ⟨a1, c1, rfl, _⟩ := ho1.slice
  clear C1 ho1 hb1
  go_wp2_with (at_builtin; refine wpList_app_evs rfl _ _ rfl (.slice none 0 0) (.slice ua es.length uc) [] es w1.heap.size rfl (.inl ⟨rfl, rfl⟩) (Nat.le_refl _) rfl (unhide HU _ (unhide HB1)) (by simp; omega) ?_)
  intro a2 c2 w2 ho2 hg2
  have hb2 : Below w1.heap.size w1 w2 := grownO hg2 _ (Nat.le_refl _) (by intro k hk; cases hk)
  have CF1 := unhide CF w2 _ _ (unhide HS1 w2 hb2) ho2.seq
  have HB2 := hide (nnext (unhide HB1) hb2)
  clear ho2 hg2 hb2 HS1
  try simp only [List.length_nil, Nat.zero_add, List.nil_append] at CF1
  try simp only [List.length_nil, Nat.zero_add]
  go_wp2_with fail
  refine CF1.mono ?_
  rintro e w3 ⟨vn3, vl3, rfl, hn3, ⟨g3, rfl, hg3, ho3⟩, hb3⟩
  have HB3 := hide (nnext (unhide HB2) hb3)
  have HN3 := hide (fun W (hW : Below w3.heap.size w3 W) => hn3.seq.next hW)
  have HO3 := hide (fun W (hW : Below w3.heap.size w3 W) => (ownr_seq ho3).next hW)
  have CG1 := unhide CG w3 _ _ (unhide HV w3 (unhide HB3)) (unhide HU w3 (unhide HB3))
  obtain ⟨na3, nc3, rfl, _⟩ := hn3.slice
  clear CF1 hn3 ho3 hb3
  go_wp2_with fail
  refine CG1.mono ?_
  rintro e w4 ⟨vn4, vl4, rfl, hn4, ho4, hb4⟩
  have HB34 := hide hb4
  have HB4 := hide (nnext (unhide HB3) hb4)
  have HN4 := hide (fun W (hW : Below w4.heap.size w4 W) => hn4.seq.next hW)
  have HO4 := hide (fun W (hW : Below w4.heap.size w4 W) => ho4.seq.next hW)
  obtain ⟨na4, nc4, rfl, _⟩ := hn4.slice
  obtain ⟨la4, lc4, rfl, _⟩ := ho4.slice
  clear CG1 hn4 ho4 hb4
  go_wp2_with fail
  have hz : (w4.alloc (.cells #[.int .i64 1, .int .i64 1, .string ⟨#[47]⟩] 29)).heap.size = w4.heap.size + 1 := by simp
  have h1 : OneR ((w4.alloc (.cells #[.int .i64 1, .int .i64 1, .string ⟨#[47]⟩] 29)).alloc (.cells #[.int .i64 3, .string ⟨#[47]⟩] 31)) w4.heap.size (⟨1, 1, [47]⟩ : Wa) := ((allocB _ _).block _ (by simp)).trans (one_newW w4 ⟨1, 1, [47]⟩)
  have h2 := one_new (w4.alloc (.cells #[.int .i64 1, .int .i64 1, .string ⟨#[47]⟩] 29)) 3 [47]
  have CF2 := fire_one (w := w4) (w4.alloc (.cells #[.int .i64 1, .int .i64 1, .string ⟨#[47]⟩] 29)) _ h2 w4.heap.size h1 (allocB _ _)
  rw [hz] at CF2
  refine CF2.mono ?_
  rintro r w5 ⟨na, nc, g, rfl, hb5⟩
  have HB45 := hide (nnext (nnext (allocB _ _) (allocB _ _)) hb5)
  have HB5 := hide (nnext (unhide HB4) (unhide HB45))
  have C61 := unhide C6 w5 _ _ (unhide HN3 w5 (nnext (unhide HB34) (unhide HB45))) (unhide HN4 w5 (unhide HB45))
  clear CF2 hb5 h1 h2 hz
  go_wp2_with fail
  refine C61.mono ?_
  rintro r w6 ⟨rfl, hb6⟩
  have HB46 := hide (nnext (unhide HB45) hb6)
  have HB6 := hide (nnext (unhide HB5) hb6)
  have C51 := unhide C5 w6 _ _ (unhide HO3 w6 (nnext (unhide HB34) (unhide HB46))) (unhide HO4 w6 (unhide HB46))
  clear C61 hb6
  go_wp2_with fail
  refine C51.mono ?_
  rintro r w7 ⟨rfl, hb7⟩
  have HB7 := hide (nnext (unhide HB6) hb7)
  clear C51 hb7
  go_wp2_with fail
  go_ret
  exact ⟨rfl, unhide HB7⟩

end Go.Proofs.Ytppmkgehdblbdaa
