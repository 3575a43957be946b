/-
  That disk.Write and aviaryref.Write answer alike; aviarylaw.DiskWrites returns true: the walk.
-/
import Derived.Test.YtbadhnmljlmefaaDRefG
namespace Go.Proofs.Ytbadhnmljlmefaa
open Go.RowKit

theorem both_write (fs : List DF) (name x : List UInt8) (hs : Slim fs) (hl : fs.length ≤ 140737488355328) (hnm : name.length ≤ 140737488355328) (hx : x.length ≤ 140737488355328) :
    ∃ E d, d.length ≤ 1000000 ∧ GivesD 9 (fun y => #[y, .string ⟨name.toArray⟩, .string ⟨x.toArray⟩]) fs d E ∧ GivesD 11 (fun y => #[y, .string ⟨name.toArray⟩, .string ⟨x.toArray⟩]) fs d E := by
  rcases write_cases fs name x with ⟨E, h0, h⟩ | ⟨g, A, f, B, T, hfit⟩ | ⟨g, hn, hl16, ⟨A, B, G⟩, hfit⟩
  · refine ⟨E, [], by simp, gives_no fun v W hv => write_no v fs name x E W hv hs hnm hx h, gives_no fun v W hv => ?_⟩
    rcases h with h | h | ⟨g, hn, h16, ⟨A, B, G⟩, rfl⟩ | ⟨g, hn, ⟨A, f, B, T, hlong⟩, rfl⟩ | ⟨g, hn, hl16, ⟨A, B, G⟩, hlong, rfl⟩
    · exact rwrite_no1 v fs name x E W hv hs hl hnm (.inl h)
    · exact rwrite_no1 v fs name x E W hv hs hl hnm (.inr h)
    · refine (rwrite_new v fs A B name x W hv hs g hn G hx).mono fun e w' ⟨v', E', he, h1, _, _, hb⟩ => ?_
      obtain ⟨rfl, rfl⟩ := h1 (by omega)
      exact ⟨he, hb⟩
    · refine (rwrite_there v fs A B f name x W hv hs g T hx).mono fun e w' ⟨v', E', he, h1, _, hb⟩ => ?_
      obtain ⟨rfl, rfl⟩ := h1 hlong
      exact ⟨he, hb⟩
    · refine (rwrite_new v fs A B name x W hv hs g hn G hx).mono fun e w' ⟨v', E', he, _, h1, _, hb⟩ => ?_
      obtain ⟨rfl, rfl⟩ := h1 hl16 hlong
      exact ⟨he, hb⟩
  · refine ⟨0, A ++ ⟨f.n, f.s, f.t ++ x⟩ :: B, ?_, gives_own fun v W hv => write_there v fs A B f name x W hv hs g T hfit, gives_disk fun v W hv => ?_⟩
    · have := g.few; rw [T.eq] at this; simp at this ⊢; omega
    · refine (rwrite_there v fs A B f name x W hv hs g T hx).mono fun e w' ⟨v', E', he, _, h1, hb⟩ => ?_
      obtain ⟨rfl, h2⟩ := h1 hfit
      exact ⟨v', he, h2, hb⟩
  · refine ⟨0, A ++ ⟨name, [], x⟩ :: B, ?_, gives_own fun v W hv => write_new v fs A B name x W hv hs g hn hl16 G hfit, gives_disk fun v W hv => ?_⟩
    · have := g.few; rw [G.eq] at this; simp at this ⊢; omega
    · refine (rwrite_new v fs A B name x W hv hs g hn G hx).mono fun e w' ⟨v', E', he, _, _, h1, hb⟩ => ?_
      obtain ⟨rfl, h2⟩ := h1 hl16 hfit
      exact ⟨v', he, h2, hb⟩

set_option maxRecDepth 10000 in
set_option maxHeartbeats 2000000 in
theorem diskWrites_walk (v : Value) (fs : List DF) (name x : List UInt8) (w : World) (hv : DiskV w v fs) (hs : Slim fs) (hfl : fs.length * 48 ≤ 140737488355328) (hnm : name.length ≤ 140737488355328) (hx : x.length ≤ 140737488355328) :
    Calls Try.prog 3 #[.agg #[v], .string ⟨name.toArray⟩, .string ⟨x.toArray⟩] w fun e w' => e = .returned (.bool true) ∧ Below w.heap.size w w' := by
  have CY := fun W (hW : Below w.heap.size w W) => rcopy_any v fs W (hv.next hW) hfl
  obtain ⟨E, d, hd, G1, G2⟩ := both_write fs name x hs (by omega) hnm hx
  have G2' := fun W (hW : Below w.heap.size w W) => G2 v W (hv.next hW)
  have CE := fun v1 v2 W (h : DiskV W v1 d) (h' : DiskV W v2 d) => rsame_any v1 v2 d W hd h h'
  have CG := fun v1 W (h : DiskV W v1 fs) => dgood_any v1 fs W h hs
  have CR := fun W (hW : Below w.heap.size w W) => rgood_any v fs W (hv.next hW) hs (by omega)
  have CW := fun W => write_new (.slice none 0 0) [] [] [] [97] [98] W (DiskV.nil W) (by intro f hf; cases hf) good_nil1 (by decide) (by decide) (gap_nil1 _) (by decide)
  obtain ⟨a, n, c, rfl⟩ := disk_slice hv
  generalize goodD fs = gd at CG CR
  have HG1 := hide G1
  have HG2 := hide G2'
  have HCE := hide CE
  have HCG := hide CG
  have HCR := hide CR
  have HCY := hide CY
  have HCW := hide CW
  clear hv hs G1 G2 G2' CE CY CG CR CW
  go_enter Try.func3, Try.ntmps3
  go_wp2_with fail
  refine (unhide HCY _ ((Below.refl _ _).alloc (Nat.le_refl _) _)).mono ?_
  rintro e w1 ⟨v1, rfl, ho, hb1⟩
  have hB1 := box_then hb1
  have X1 := hide ((BoxAt.new w (.slice a n c)).next hb1)
  have D1 := hide ho.disk
  obtain ⟨a1, n1, c1, rfl⟩ := disk_slice ho.disk
  clear hb1 ho
  go_wp2_with fail
  refine (unhide HG1 _ _ (unhide D1)).mono ?_
  rintro e w5 ⟨a5, n5, c5, rfl, h5, hb5⟩
  have hal := (Below.refl w5.heap.size w5).alloc (Nat.le_refl _) (.cells #[.slice a5 n5 c5] 24)
  have hB5 := below_next (below_next hB1 hb5) hal
  have X5 := hide (((unhide X1).next hb5).next hal)
  have Y5 := hide (BoxAt.new w5 (.slice a5 n5 c5))
  have F5 := hide ((unhide h5).next hal)
  have cx := (unhide X5).c
  clear HG1 D1 hb5 hB1 X1 h5 hal
  go_wp2_with fail
  generalize w5.alloc (.cells #[.slice a5 n5 c5] 24) = W5 at *
  refine (unhide HG2 _ hB5).mono ?_
  rintro e w6 ⟨a6, n6, c6, rfl, h6, hb6⟩
  have hal := (Below.refl w6.heap.size w6).alloc (Nat.le_refl _) (.cells #[.slice a6 n6 c6] 24)
  have hB6 := below_next (below_next hB5 hb6) hal
  have X6 := hide (((unhide X5).next hb6).next hal)
  have Y6 := hide (((unhide Y5).next hb6).next hal)
  have Z6 := hide (BoxAt.new w6 (.slice a6 n6 c6))
  have F6 := hide (((unhide F5).next hb6).next hal)
  have F7 := hide ((unhide h6).next hal)
  clear HG2 hb6 hB5 X5 Y5 F5 h6 hal cx
  go_wp2_with fail
  generalize w6.alloc (.cells #[.slice a6 n6 c6] 24) = W6 at *
  refine (unhide HCW _).mono ?_
  rintro e w8 ⟨v8, rfl, ho, hb8⟩
  obtain ⟨q8, c8, rfl, _, _⟩ := own_some ho (k := 0) (by decide)
  have hal := (Below.refl w8.heap.size w8).alloc (Nat.le_refl _) (.cells #[.slice (some ⟨q8, 0, none⟩) 1 c8] 24)
  have hB8 := below_next (below_next hB6 hb8) hal
  have X8 := hide (((unhide X6).next hb8).next hal)
  have Y8 := hide (((unhide Y6).next hb8).next hal)
  have Z8 := hide (((unhide Z6).next hb8).next hal)
  have V8 := hide (BoxAt.new w8 (.slice (some ⟨q8, 0, none⟩) 1 c8))
  have F8 := hide (((unhide F6).next hb8).next hal)
  have G8 := hide (((unhide F7).next hb8).next hal)
  clear HCW ho hb8 hal hB6 X6 Y6 Z6 F6 F7
  go_wp2_with fail
  generalize w8.alloc (.cells #[.slice (some ⟨q8, 0, none⟩) 1 c8] 24) = W8 at *
  have cx := (unhide X8).c
  have cy := (unhide Y8).c
  have cz := (unhide Z8).c
  have cv := (unhide V8).c
  go_region_with (first
    | (go_at_call 12; refine (unhide HCE _ _ _ (unhide F8).drew (unhide G8).drew).mono ?_; rintro e z1 ⟨rfl, hb⟩; have hb' := below_drew hb; have hB9 := below_next hB8 hb'; have X9 := hide ((unhide X8).next hb'); have V9 := hide ((unhide V8).next hb'); have cx9 := (unhide X9).c; have cv9 := (unhide V9).c; clear hb hb' cx cy cz cv)
    | (go_at_call 10; refine (unhide HCY _ hB9).mono ?_; rintro e z2 ⟨v10, rfl, ho, hb⟩; have hB10 := below_next hB9 hb; have X10 := hide ((unhide X9).next hb); have V10 := hide ((unhide V9).next hb); have D10 := hide ho.disk; obtain ⟨a10, n10, c10, rfl⟩ := disk_slice ho.disk; have cx10 := (unhide X10).c; have cv10 := (unhide V10).c; clear hb ho cx9 cv9)
    | (go_at_call 13; refine (unhide HCG _ _ (unhide D10)).mono ?_; rintro e z3 ⟨rfl, hb⟩; have hB11 := below_next hB10 hb; have X11 := hide ((unhide X10).next hb); have V11 := hide ((unhide V10).next hb); have cx11 := (unhide X11).c; have cv11 := (unhide V11).c; clear hb cx10 cv10)
    | (go_at_call 14; refine (unhide HCR _ hB11).mono ?_; rintro e z4 ⟨rfl, hb⟩; have hB12 := below_next hB11 hb; have cv12 := ((unhide V11).next hb).c; clear hb cx11 cv11))
  all_goals go_wp2_with fail
  all_goals first
    | exact bodyPost_ret (v := .bool true) (by simp [results, Try.results3, go_sem, Act.put]) rfl ⟨rfl, hB12⟩
    | (go_ret; exact ⟨rfl, hB12⟩)
end Go.Proofs.Ytbadhnmljlmefaa
