/-
  Two calls that answer alike; what aviarylaw.here answers.
-/
import Derived.Test.YtbadhnmljlmefaaDRefC
import Derived.Test.YtbadhnmljlmefaaDCut
namespace Go.Proofs.Ytbadhnmljlmefaa
open Go.RowKit

/-- a call on a disk of these files says E, and hands back a disk of those -/
def GivesD (f : FuncId) (args : Value → Array Value) (fs d : List DF) (E : Int) : Prop := ∀ v W, DiskV W v fs → Calls Try.prog f (args (.agg #[v])) W fun e w' => ∃ a n c, e = .returned (.tuple #[.agg #[.slice a n c], .int .i64 E]) ∧ Hid (DiskV w' (.slice a n c) d) ∧ Below W.heap.size W w'
theorem gives_no {f : FuncId} {args : Value → Array Value} {fs : List DF} {E : Int} (h : ∀ v W, DiskV W v fs → Calls Try.prog f (args (.agg #[v])) W fun e w' => e = .returned (.tuple #[.agg #[.slice none 0 0], .int .i64 E]) ∧ Below W.heap.size W w') : GivesD f args fs [] E :=
  fun v W hv => (h v W hv).mono fun _ w' ⟨he, hb⟩ => ⟨_, _, _, he, DiskV.nil w', hb⟩
theorem gives_own {f : FuncId} {args : Value → Array Value} {fs d : List DF} (h : ∀ v W, DiskV W v fs → Calls Try.prog f (args (.agg #[v])) W fun e w' => ∃ v', e = .returned (.tuple #[.agg #[v'], .int .i64 0]) ∧ OwnV w' W.heap.size v' d ∧ Below W.heap.size W w') : GivesD f args fs d 0 :=
  fun v W hv => (h v W hv).mono fun _ w' ⟨v', he, ho, hb⟩ => by
    obtain ⟨a, n, c, rfl⟩ := disk_slice ho.disk
    exact ⟨a, n, c, he, ho.disk, hb⟩
theorem gives_disk {f : FuncId} {args : Value → Array Value} {fs d : List DF} (h : ∀ v W, DiskV W v fs → Calls Try.prog f (args (.agg #[v])) W fun e w' => ∃ v', e = .returned (.tuple #[.agg #[v'], .int .i64 0]) ∧ DiskV w' v' d ∧ Below W.heap.size W w') : GivesD f args fs d 0 :=
  fun v W hv => (h v W hv).mono fun _ w' ⟨v', he, ho, hb⟩ => by
    obtain ⟨a, n, c, rfl⟩ := disk_slice ho
    exact ⟨a, n, c, he, ho, hb⟩

theorem both_crash (fs : List DF) (keep : Int) (hs : Slim fs) (hl : fs.length ≤ 140737488355328) : ∃ E d, d.length ≤ 1000000 ∧ GivesD 24 (fun x => #[x, .int .i64 keep]) fs d E ∧ GivesD 25 (fun x => #[x, .int .i64 keep]) fs d E := by
  by_cases h : goodD fs = false ∨ keep < 0
  · exact ⟨3, [], by simp, gives_no fun v W hv => crash_no v fs keep W hv hs h, gives_no fun v W hv => rcrash_no v fs keep W hv hs hl h⟩
  · have g : GoodD fs := goodD_true.1 (by cases h' : goodD fs with | true => rfl | false => exact absurd (.inl h') h)
    have hk : 0 ≤ keep := Int.not_lt.1 fun h' => h (.inr h')
    obtain ⟨K, rfl⟩ : ∃ K : Nat, keep = K := ⟨keep.toNat, by omega⟩
    exact ⟨0, fs.map (crashF K), by have := g.few; simp; omega, gives_own fun v W hv => crash_yes v fs K W hv hs g, gives_disk fun v W hv => rcrash_yes v fs K W hv hs g⟩

theorem good_nil1 : GoodD [] := goodD_true.1 goodD_nil
theorem gap_nil1 (name : List UInt8) : Gap [] [] [] name := ⟨rfl, by simp, by simp⟩
set_option maxHeartbeats 400000 in
theorem here_any (w : World) :
    Calls Try.prog 21 #[] w fun e w' => e = .returned (.bool true) ∧ Below w.heap.size w w' := by
  have g1 : GoodD [⟨[97], [98], []⟩] := good_ins good_nil1 (gap_nil1 [97]) (by decide) (by decide) rfl (by decide)
  have C1 := fun v W (hv : DiskV W v [⟨[97], [98], []⟩]) => read_there v [⟨[97], [98], []⟩] [] [] ⟨[97], [98], []⟩ [97] W hv (good_slim g1) g1 ((gap_nil1 [97]).ins (f' := ⟨[97], [98], []⟩) rfl)
  have C2 := fun W => read_no (.slice none 0 0) [] [97] 7 W (DiskV.nil W) (good_slim good_nil1) (.inr ⟨good_nil1, ⟨[], [], gap_nil1 _⟩, rfl⟩)
  have D1 : DiskV (w.alloc (.cells #[.string ⟨#[97]⟩, .string ⟨#[98]⟩, .string ⟨#[]⟩] 41)) (.slice (some ⟨w.heap.size, 0, none⟩) 1 1) [⟨[97], [98], []⟩] :=
    .inr ⟨w.heap.size, 0, 1, rfl, by decide, by decide, by simp, by simp, fun j u hj => (show One _ w.heap.size ⟨[97], [98], []⟩ from one_new w ⟨[97], [98], []⟩ _ rfl).row j u (by simpa [cellsF] using hj)⟩
  have HD := hide D1
  have H1 := hide C1
  clear D1 C1 g1
  go_enter Try.func21, Try.ntmps21
  go_wp2_with fail
  refine (unhide H1 _ _ (unhide HD)).mono ?_
  rintro e w1 ⟨rfl, hb1⟩
  have hB1 := box_then hb1
  clear hb1 H1 HD
  go_wp2_with fail
  refine (C2 _).mono ?_
  rintro e w2 ⟨rfl, hb2⟩
  have hB2 := below_next hB1 hb2
  clear hb2 hB1 C2
  go_wp2_with fail
  go_ret
  exact ⟨rfl, hB2⟩

set_option maxRecDepth 10000 in
set_option maxHeartbeats 2000000 in
theorem diskReads_walk (v : Value) (fs : List DF) (name : List UInt8) (keep : Int) (w : World) (hv : DiskV w v fs) (hs : Slim fs) (hfl : fs.length * 48 ≤ 140737488355328) :
    Calls Try.prog 5 #[.agg #[v], .string ⟨name.toArray⟩, .int .i64 keep] w fun e w' => e = .returned (.bool true) ∧ Below w.heap.size w w' := by
  have CY := fun W (hW : Below w.heap.size w W) => rcopy_any v fs W (hv.next hW) hfl
  have CR := fun v1 W (h : DiskV W v1 fs) => read_any v1 fs name W h hs
  have CQ := fun W (hW : Below w.heap.size w W) => rread_any v fs name W (hv.next hW) hs (by omega)
  obtain ⟨E, d, hd, G1, G2⟩ := both_crash fs keep hs (by omega)
  have G2' := fun W (hW : Below w.heap.size w W) => G2 v W (hv.next hW)
  have CE := fun v1 v2 W (h : DiskV W v1 d) (h' : DiskV W v2 d) => rsame_any v1 v2 d W hd h h'
  obtain ⟨a, n, c, rfl⟩ := disk_slice hv
  generalize readD fs name = R at CR CQ
  have HCR := hide CR
  have HG1 := hide G1
  have HG2 := hide G2'
  have HCE := hide CE
  have HCY := hide CY
  clear hv hs CR G1 G2 G2' CE CY
  go_enter Try.func5, Try.ntmps5
  go_wp2_with fail
  refine (unhide HCY _ ((Below.refl _ _).alloc (Nat.le_refl _) _)).mono ?_
  rintro e w1 ⟨v1, rfl, ho, hb1⟩
  have hB1 := box_then hb1
  have X1 := hide ((BoxAt.new w (.slice a n c)).next hb1)
  have D1 := hide ho.disk
  obtain ⟨a1, n1, c1, rfl⟩ := disk_slice ho.disk
  clear hb1 ho
  go_wp2_with fail
  refine (unhide HCR _ _ (unhide D1)).mono ?_
  rintro e w2 ⟨rfl, hb2⟩
  have hB2 := below_next hB1 hb2
  have X2 := hide ((unhide X1).next hb2)
  have c2 := (unhide X2).c
  clear HCR D1 hb2 hB1 X1
  go_wp2_with fail
  refine (CQ _ hB2).mono ?_
  rintro e w3 ⟨rfl, hb3⟩
  have hB3 := below_next hB2 hb3
  have X3 := hide ((unhide X2).next hb3)
  have c3 := (unhide X3).c
  clear CQ hb3 hB2 X2 c2
  go_wp2_with fail
  refine (unhide HCY _ hB3).mono ?_
  rintro e w4 ⟨v4, rfl, ho, hb4⟩
  have hB4 := below_next hB3 hb4
  have X4 := hide ((unhide X3).next hb4)
  have D4 := hide ho.disk
  obtain ⟨a4, n4, c4, rfl⟩ := disk_slice ho.disk
  clear hb4 ho hB3 X3 c3 HCY
  go_wp2_with fail
  refine (unhide HG1 _ _ (unhide D4)).mono ?_
  rintro e w5 ⟨a5, n5, c5, rfl, h5, hb5⟩
  have hal := (Below.refl w5.heap.size w5).alloc (Nat.le_refl _) (.cells #[.slice a5 n5 c5] 24)
  have hB5 := below_next (below_next hB4 hb5) hal
  have X5 := hide (((unhide X4).next hb5).next hal)
  have Y5 := hide (BoxAt.new w5 (.slice a5 n5 c5))
  have F5 := hide ((unhide h5).next hal)
  have cx := (unhide X5).c
  clear HG1 D4 hb5 hB4 X4 h5 hal
  go_wp2_with fail
  generalize w5.alloc (.cells #[.slice a5 n5 c5] 24) = W5 at *
  refine (unhide HG2 _ hB5).mono ?_
  rintro e w6 ⟨a6, n6, c6, rfl, h6, hb6⟩
  have hal := (Below.refl w6.heap.size w6).alloc (Nat.le_refl _) (.cells #[.slice a6 n6 c6] 24)
  have hB6 := below_next (below_next hB5 hb6) hal
  have y6 := (((unhide Y5).next hb6).next hal).c
  have z6 := (BoxAt.new w6 (.slice a6 n6 c6)).c
  have F6 := hide (((unhide F5).next hb6).next hal)
  have F7 := hide ((unhide h6).next hal)
  clear HG2 hb6 hB5 X5 Y5 F5 h6 hal cx
  go_wp2_with fail
  generalize w6.alloc (.cells #[.slice a6 n6 c6] 24) = W6 at *
  refine (unhide HCE _ _ _ (unhide F6) (unhide F7)).mono ?_
  rintro e w7 ⟨rfl, hb7⟩
  have hB7 := below_next hB6 hb7
  clear HCE hb7 hB6 F6 F7 y6 z6
  go_wp2_with fail
  refine (here_any _).mono ?_
  rintro e w8 ⟨rfl, hb8⟩
  have hB8 := below_next hB7 hb8
  clear hb8 hB7
  go_wp2_with fail
  go_ret
  exact ⟨rfl, hB8⟩
end Go.Proofs.Ytbadhnmljlmefaa
