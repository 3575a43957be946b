/-
  The law WatchAdds: the walk.
-/
import Derived.Test.YtppmkgehdblbdaaDoorHP
namespace Go.Proofs.YtppmkgehdblbdaaDoor
open Go.RowKit

theorem addE_one : addE [] ⟨1, 1, [47]⟩ = 0 ∧ addL [] ⟨1, 1, [47]⟩ = [⟨1, 1, [47]⟩] := by
  have ha : admW ⟨1, 1, [47]⟩ = 0 := by
    rw [admW, if_neg (by simp), if_neg (by rw [goodB_root]; simp), if_neg (by simp)]
  exact addE_new ha rfl (by simp)

set_option maxRecDepth 20000 in
set_option maxHeartbeats 4000000 in
theorem watchAdds_walk (v : Value) (ws : List Wa) (x : Wa) (s : Int) (w : World) (hv : SeqV w v ws) (hs : Short ws) (hl : ws.length * 32 ≤ 140737488351232) (hp : x.p.length ≤ 1048576) :
    Calls Tryd.prog 3 #[v, waV x, .int .i64 s] w fun e w' => e = .returned (.bool true) ∧ Below w.heap.size w w' := by
  have HBX : Hid (∀ W, Below (w.heap.size + 1) (w.alloc (.cells #[.int .i64 x.s, .int .i64 x.k, .string ⟨x.p.toArray⟩] 24)) W → (W.cell? ⟨w.heap.size, 0, none⟩ = some (.int .i64 x.s) ∧ W.cell? ⟨w.heap.size, 1, none⟩ = some (.int .i64 x.k) ∧ W.cell? ⟨w.heap.size, 2, none⟩ = some (.string ⟨x.p.toArray⟩)) ∧ Below w.heap.size w W ∧ w.heap.size < W.heap.size) := hide (fun W h => ⟨box_w h, (allocB _ _).trans (h.mono (Nat.le_succ _)), by have := h.size; simp at this; omega⟩)
  have CK := hide (fun W (hW : Below w.heap.size w W) => wats_any v ws W (hv.next hW) (by omega))
  have CA := hide (fun W v' (h : SeqV W v' ws) => add_any v' ws x W h hs (by omega) hl)
  have CB := hide (fun W (hW : Below w.heap.size w W) => radd_any v ws x W (hv.next hW) hl hp)
  have CD := hide (fun W v' (h : SeqV W v' ws) => drop_any v' s ws W h hs hl)
  have CE := hide (fun W (hW : Below w.heap.size w W) => rdrop_any v s ws W (hv.next hW) hl)
  have hAl : (addL ws x).length ≤ 140737488355328 := by
    unfold addL
    split
    · simp
    · split
      · omega
      · simp; omega
  have hDl : (dropW ws s).length ≤ ws.length := List.length_filter_le _ _
  have CS := hide (fun W va vb (h : SeqV W va (addL ws x)) (h' : SeqV W vb (addL ws x)) => rsameW_any va vb (addL ws x) W h h' hAl)
  have CT := hide (fun W va vb (h : SeqV W va (dropW ws s)) (h' : SeqV W vb (dropW ws s)) => rsameW_any va vb (dropW ws s) W h h' (by omega))
  have C1 : Hid (∀ W, Calls Tryd.prog 5 #[.slice none 0 0, .agg #[.int .i64 1, .int .i64 1, .string ⟨#[47]⟩]] W fun r w' => ∃ a c, r = .returned (.tuple #[.slice a 1 c, .int .i64 0]) ∧ Below W.heap.size W w') := hide (fun W => by
    refine (add_any (.slice none 0 0) [] ⟨1, 1, [47]⟩ W (SeqV.nil W) (by intro y hy; simp at hy) (by simp) (by simp)).mono ?_
    rintro r w' ⟨vl, rfl, h1, h2⟩
    rw [addE_one.2] at h1
    obtain ⟨a, c, rfl, _⟩ := h1.slice
    exact ⟨a, c, by rw [addE_one.1]; rfl, h2⟩)
  obtain ⟨va, vc, rfl⟩ := seq_slice hv
  obtain ⟨w0, hw0⟩ : ∃ w0, w.alloc (.cells #[.int .i64 x.s, .int .i64 x.k, .string ⟨x.p.toArray⟩] 24) = w0 := ⟨_, rfl⟩
  have hz0 : w0.heap.size = w.heap.size + 1 := by rw [← hw0]; simp
  rw [hw0] at HBX
  obtain ⟨⟨b0, b1, b2⟩, hB0, hl0⟩ := unhide HBX w0 (Below.refl _ _)
  have HB0 := hide hB0
  have HW0 := hide hw0
  have HBY : Hid (∀ W, Below w0.heap.size w0 W → (W.cell? ⟨w.heap.size, 0, none⟩ = some (.int .i64 x.s) ∧ W.cell? ⟨w.heap.size, 1, none⟩ = some (.int .i64 x.k) ∧ W.cell? ⟨w.heap.size, 2, none⟩ = some (.string ⟨x.p.toArray⟩)) ∧ Below w.heap.size w W ∧ w.heap.size < W.heap.size) := hide (fun W h => unhide HBX W (by rw [← hz0]; exact h))
  obtain ⟨A, hA⟩ : ∃ A, addL ws x = A := ⟨_, rfl⟩
  obtain ⟨E, hE⟩ : ∃ E, addE ws x = E := ⟨_, rfl⟩
  obtain ⟨D, hD⟩ : ∃ D, dropW ws s = D := ⟨_, rfl⟩
  rw [hA] at CA CB CS
  rw [hE] at CA CB
  rw [hD] at CD CE CT
  clear hv hB0 HBX hz0 hA hE hD hAl hDl hs
  unfold waV at CA CB
  unfold waV
  go_enter Tryd.func3, Tryd.ntmps3
  go_wp2_with fail
  try rw [unhide HW0]
  go_region_law (first
    | (go_simp; refine (unhide CK _ (by first | exact unhide HB0 | exact (unhide HB0).drew)).mono ?_; rintro e w1 ⟨v1, rfl, ho1, hb1⟩; have HC1 : Hid (Below w0.heap.size w0 w1) := (by first | exact hb1 | exact nbelow_drew hb1); obtain ⟨⟨p0, p1, p2⟩, hB1, hl1⟩ := unhide HBY w1 (unhide HC1); have HB1 := hide hB1; have HS1 := hide ho1.seq; obtain ⟨a1, cc1, rfl, _⟩ := ho1.slice; clear hb1 hB1 ho1)
    | (go_simp; refine (unhide CA _ _ (unhide HS1)).mono ?_; rintro e w2 ⟨vl2, rfl, ho2, hb2⟩; have HC2 := hide (nnext (unhide HC1) hb2); obtain ⟨⟨q0, q1, q2⟩, hB2, hl2⟩ := unhide HBY w2 (unhide HC2); have HB2 := hide hB2; have HS2 := hide ho2.seq; obtain ⟨a2, cc2, rfl, _⟩ := ho2.slice; clear hb2 hB2 ho2))
  all_goals
    go_wp2_with fail
    refine (unhide CB w2 (unhide HB2)).mono ?_
    rintro e w3 ⟨vl3, rfl, ho3, hb3⟩
    have HD3 := hide hb3
    have HB3 := hide (nnext (unhide HB2) hb3)
    have HS3 := hide ho3.seq
    obtain ⟨a3, cc3, rfl, _⟩ := ho3.slice
    clear hb3 ho3
    go_wp2_with fail
    refine (unhide C1 _).mono ?_
    rintro e w4 ⟨a4, c4, rfl, hb4⟩
    have HB4 := hide (nnext (unhide HB3) hb4)
    have C5 := unhide CS w4 _ _ ((unhide HS2).next (nnext (unhide HD3) hb4)) ((unhide HS3).next hb4)
    clear hb4
    go_wp2_with fail
    refine C5.mono ?_
    rintro e w5 ⟨rfl, hb5⟩
    have HB5 := hide (nnext (unhide HB4) hb5)
    clear C5 hb5
    go_wp2_with fail
    refine (unhide CK w5 (unhide HB5)).mono ?_
    rintro e w6 ⟨v6, rfl, ho6, hb6⟩
    have HB6 := hide (nnext (unhide HB5) hb6)
    have C7 := unhide CD w6 v6 ho6.seq
    obtain ⟨a6, cc6, rfl, _⟩ := ho6.slice
    clear hb6 ho6
    go_wp2_with fail
    refine C7.mono ?_
    rintro e w7 ⟨g7, rfl, hg7, ho7, hb7⟩
    have HB7 := hide (nnext (unhide HB6) hb7)
    have HS7 := hide (ownr_seq ho7)
    clear C7 hb7 ho7
    go_wp2_with fail
    refine (unhide CE w7 (unhide HB7)).mono ?_
    rintro e w8 ⟨vl8, rfl, ho8, hb8⟩
    have HB8 := hide (nnext (unhide HB7) hb8)
    have C9 := unhide CT w8 _ _ ((unhide HS7).next hb8) ho8.seq
    obtain ⟨a8, cc8, rfl, _⟩ := ho8.slice
    clear hb8 ho8
    go_wp2_with fail
    refine C9.mono ?_
    rintro e w9 ⟨rfl, hb9⟩
    have HB9 := hide (nnext (unhide HB8) hb9)
    clear C9 hb9
    go_wp2_with fail
    go_ret
    exact ⟨rfl, unhide HB9⟩

end Go.Proofs.YtppmkgehdblbdaaDoor
