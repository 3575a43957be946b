/-
  aviarykeep.DiskSafe returns true: the walk.
-/
import Derived.Test.YtbadhnmljlmefaaDKeep
import Derived.Deep.CutRange
namespace Go.Proofs.Ytbadhnmljlmefaa
open Go.RowKit

theorem str_cat {a b c : List UInt8} (h : a ++ b = c) : (ByteArray.mk a.toArray) ++ (ByteArray.mk b.toArray) = ⟨c.toArray⟩ := by rw [cat_one, h]

theorem safe_new {w W4 w5 : World} {v : Value} {d : List DF} (h4 : Below w.heap.size w W4) (h5 : Below W4.drew.heap.size W4.drew w5) (hd : OwnV w5 W4.drew.heap.size v d) :
    Hid (Below w.heap.size w (w5.alloc (.cells #[v] 24)) ∧ BoxAt (w5.alloc (.cells #[v] 24)) w5.heap.size v ∧ DiskV (w5.alloc (.cells #[v] 24)) v d) := by
  have h := below_next h4 (below_drew h5)
  exact ⟨h.alloc h.size _, BoxAt.new w5 v, hd.disk.alloc _⟩
theorem safe_put {w W4 w5 : World} {v : Value} {d : List DF} {x : Array Value} {t : TypeId} (h4 : Below w.heap.size w W4) (h5 : Below (W4.alloc (.cells x t)).drew.heap.size (W4.alloc (.cells x t)).drew w5) (hd : OwnV w5 (W4.alloc (.cells x t)).drew.heap.size v d) (hb : BoxAt w5 W4.heap.size (.slice none 0 0)) :
    Hid (Below w.heap.size w (w5.setCell ⟨W4.heap.size, 0, none⟩ v) ∧ BoxAt (w5.setCell ⟨W4.heap.size, 0, none⟩ v) W4.heap.size v ∧ DiskV (w5.setCell ⟨W4.heap.size, 0, none⟩ v) v d) := by
  have h := below_next (h4.alloc h4.size (.cells x t)) (below_drew h5)
  refine ⟨h.setCell h4.size _, hb.set v, OwnV.disk (B := 0) ?_⟩
  rcases hd with hd | ⟨g, c, e, h1, h2⟩
  · exact .inl hd
  · exact .inr ⟨g, c, e, Nat.zero_le _, h2.other (hb.ne h2) _⟩

set_option maxHeartbeats 2000000 in
theorem diskSafe_walk (v : Value) (fs : List DF) (name x : List UInt8) (keep : Int) (w : World) (hv : DiskV w v fs) (hs : Slim fs) (hnm : name.length ≤ 140737488355328) (hx : x.length ≤ 140737488355328) (hk0 : -9223372036854775808 ≤ keep) (hk1 : keep ≤ 9223372036854775807) :
    Calls Try.prog 7 #[.agg #[v], .string ⟨name.toArray⟩, .string ⟨x.toArray⟩, .int .i64 keep] w fun e w' => e = .returned (.bool true) ∧ Below w.heap.size w w' := by
  have CR := fun W (hW : Below w.heap.size w W) => read_any _ fs name W (hv.next hW) hs
  obtain ⟨a, n, c, rfl⟩ := disk_slice hv
  rcases write_any (.slice a n c) fs name x hs hnm hx with ⟨E, hne, CW⟩ | ⟨A, f', B, s0, t0, Wr, CW⟩
  · have CW := fun W (hW : Below w.heap.size w W) => CW W (hv.next hW)
    clear hv hs
    generalize readD fs name = R at CR
    go_enter Try.func7, Try.ntmps7
    go_wp2_with fail
    refine (CR _ ((Below.refl _ _).alloc (Nat.le_refl _) _)).mono ?_
    rintro e w1 ⟨rfl, hb1⟩
    have hB1 := box_then hb1
    have c1 : w1.cell? ⟨w.heap.size, 0, none⟩ = some (.slice a n c) := by rw [hb1.cell (p := ⟨w.heap.size, 0, none⟩) (by simp)]; simp
    clear CR hb1
    go_wp2_with fail
    refine (CW _ hB1).mono ?_
    rintro e w2 ⟨rfl, hb2⟩
    have hB2 := (below_next hB1 hb2).alloc (below_next hB1 hb2).size (.cells #[.slice none 0 0] 24)
    clear CW hb2 hB1 c1
    go_wp2_with fail
    refine (stores_any _).mono ?_
    rintro e w3 ⟨rfl, hb3⟩
    have hB3 := below_next hB2 hb3
    clear hB2 hb3
    go_wp2_with fail
    go_ret
    exact ⟨rfl, hB3⟩
  · have CW := fun W (hW : Below w.heap.size w W) => CW W (hv.next hW)
    have hrd := Wr.read
    have hlen := Wr.len
    have hkk : 0 ≤ keep % 1000 := Int.emod_nonneg _ (by decide)
    obtain ⟨k, hk⟩ : ∃ k : Nat, keep % 1000 = k := ⟨(keep % 1000).toNat, by omega⟩
    have CP := fun W => pick_any keep 1000 W (by decide) (by decide) hk0 hk1
    rw [hk] at CP
    have g2 : GoodD (A ++ ⟨f'.n, f'.s ++ f'.t, []⟩ :: B) := good_set Wr.after rfl (by rw [Wr.eq]; simp; omega)
    have T2 : There (A ++ ⟨f'.n, f'.s ++ f'.t, []⟩ :: B) A ⟨f'.n, f'.s ++ f'.t, []⟩ B name := Wr.at_.set (by rw [Wr.eq])
    have CS := fun v1 W (h : DiskV W v1 (A ++ f' :: B)) => sync_there v1 _ A B f' name W h (good_slim Wr.after) Wr.after Wr.at_
    have CC := fun v1 W (h : DiskV W v1 (A ++ ⟨f'.n, f'.s ++ f'.t, []⟩ :: B)) => crash_yes v1 _ k W h (good_slim g2) g2
    have C2 := fun v1 W (h : DiskV W v1 ((A ++ ⟨f'.n, f'.s ++ f'.t, []⟩ :: B).map (crashF k))) => read_there v1 _ _ _ _ name W h (good_slim (good_crash g2 k)) (good_crash g2 k) (T2.crash k)
    have CG := fun v1 W (h : DiskV W v1 ((A ++ ⟨f'.n, f'.s ++ f'.t, []⟩ :: B).map (crashF k))) => dgood_any v1 _ W h (good_slim (good_crash g2 k))
    rw [goodD_true.2 (good_crash g2 k)] at CG
    have hend : (crashF k ⟨f'.n, f'.s ++ f'.t, []⟩).s ++ (crashF k ⟨f'.n, f'.s ++ f'.t, []⟩).t = (readD fs name).1 ++ x := by
      rw [hrd, Wr.eq]; simp [crashF]
    rw [hend] at C2
    have hlr : (readD fs name).1.length ≤ 1048576 := by rw [hrd]; simp; omega
    have hlx : x.length ≤ 1048576 := by omega
    generalize (A ++ (⟨f'.n, f'.s ++ f'.t, []⟩ : DF) :: B).map (crashF k) = d3 at CC C2 CG
    generalize A ++ (⟨f'.n, f'.s ++ f'.t, []⟩ : DF) :: B = d2 at CS CC
    generalize A ++ f' :: B = d1 at CW CS
    generalize readD fs name = R at CR C2 hlr
    obtain ⟨R1, R2⟩ := R
    simp only at CR C2 hlr
    have HCS := hide CS
    have HCC := hide CC
    have HC2 := hide C2
    have HCG := hide CG
    have hcat : ¬ 9223372036854775807 < R1.length + x.length := by omega
    clear hv hs Wr hrd g2 T2 hend CS CC C2 CG hk hkk
    go_enter Try.func7, Try.ntmps7
    go_wp2_with fail
    refine (CR _ ((Below.refl _ _).alloc (Nat.le_refl _) _)).mono ?_
    rintro e w1 ⟨rfl, hb1⟩
    have hB1 := box_then hb1
    have c1 : w1.cell? ⟨w.heap.size, 0, none⟩ = some (.slice a n c) := by rw [hb1.cell (p := ⟨w.heap.size, 0, none⟩) (by simp)]; simp
    clear CR hb1
    go_wp2_with fail
    refine (CW _ hB1).mono ?_
    rintro e w2 ⟨v1, rfl, ho, hb2⟩
    obtain ⟨a1, n1, c1', rfl⟩ := disk_slice ho.disk
    have hB2 := (below_next hB1 hb2).alloc (below_next hB1 hb2).size (.cells #[.slice a1 n1 c1'] 24)
    have HD := hide (ho.disk.alloc (.cells #[.slice a1 n1 c1'] 24))
    have hx2 := BoxAt.new w2 (.slice a1 n1 c1')
    clear CW hb2 hB1 c1 ho
    go_wp2_with fail
    generalize w2.alloc (.cells #[.slice a1 n1 c1'] 24) = W2 at *
    refine (stores_any _).mono ?_
    rintro e w3 ⟨rfl, hb3⟩
    have hB3 := below_next hB2 hb3
    have c3 := (hx2.next hb3).c
    have HD3 := hide ((unhide HD).next hb3)
    clear hB2 hb3 HD hx2
    go_wp2_with fail
    refine (unhide HCS _ _ (unhide HD3)).mono ?_
    rintro e w4 ⟨v2, rfl, ho, hb4⟩
    obtain ⟨a2, n2, c2, rfl⟩ := disk_slice ho.disk
    have hB4 := (below_next hB3 hb4).alloc (below_next hB3 hb4).size (.cells #[.slice a2 n2 c2] 24)
    have HD4 := hide (ho.disk.alloc (.cells #[.slice a2 n2 c2] 24))
    have HX4 := hide (BoxAt.new w4 (.slice a2 n2 c2))
    have hlt4 : w4.heap.size < (w4.alloc (.cells #[.slice a2 n2 c2] 24)).heap.size := by simp
    clear hb4 hB3 c3 HD3 HCS ho
    go_wp2_with fail
    generalize w4.alloc (.cells #[.slice a2 n2 c2] 24) = W4 at *
    have c4 := (unhide HX4).c
    go_cut [15, 16] from 20 (fun t15 t16 wx => ∃ q a3 n3 c3, t15 = .pointer (some ⟨q, 0, none⟩) ∧ t16 = .int .i64 0 ∧ Hid (Below w.heap.size w wx ∧ BoxAt wx q (.slice a3 n3 c3) ∧ DiskV wx (.slice a3 n3 c3) d3))
    case first =>
      clear HC2 HCG
      have CD : ∀ W, DiskV W (.slice a2 n2 c2) d2 → Calls Try.prog 24 #[.agg #[.slice a2 n2 c2], .int .i64 k] W fun e w' => ∃ a3 n3 c3, e = .returned (.tuple #[.agg #[.slice a3 n3 c3], .int .i64 0]) ∧ Hid (OwnV w' W.heap.size (.slice a3 n3 c3) d3 ∧ Below W.heap.size W w') := fun W h =>
        (unhide HCC _ W h).mono fun e w' ⟨v3, he, ho, hb⟩ => by
          obtain ⟨a3, n3, c3, rfl⟩ := disk_slice ho.disk
          exact ⟨a3, n3, c3, he, ho, hb⟩
      have HCD := hide CD
      clear CD HCC
      go_region_with (first
        | (go_at_call 28; refine (CP _).mono ?_; rintro e wp ⟨rfl, rfl⟩)
        | (go_at_call 24; refine (unhide HCD _ (by first | exact (unhide HD4).drew | exact ((unhide HD4).alloc _).drew)).mono ?_; rintro e w5 ⟨a3, n3, c3, rfl, h5⟩; have hz5 := (unhide h5).2.size; (try simp at hz5); (try (have q5 : W4.heap.size < w5.heap.size := (by omega); have B5 : Hid (BoxAt w5 W4.heap.size (.slice none 0 0)) := hide (((unhide h5).2.block W4.heap.size (by simp; done)).trans (heap_alloc_new W4 _)); have cb := (unhide B5).c; have fb := (unhide B5).f))))
      all_goals go_wp2_with fail
      all_goals go_meet
      all_goals first
        | exact ⟨_, a3, n3, c3, rfl, rfl, safe_new hB4 (unhide h5).2 (unhide h5).1⟩
        | exact ⟨_, a3, n3, c3, rfl, rfl, safe_put hB4 (unhide h5).2 (unhide h5).1 (unhide B5)⟩
    case rest =>
      obtain ⟨q, a3, n3, c3, rfl, rfl, hcut⟩ := hcut
      have cq := (unhide hcut).2.1.c
      clear HCC HX4 HD4 c4 CP
      go_wp2_with fail
      refine (unhide HC2 _ _ (unhide hcut).2.2).mono ?_
      rintro e w6 ⟨rfl, hb6⟩
      have c6 := ((unhide hcut).2.1.next hb6).c
      have hB6 := below_next (unhide hcut).1 hb6
      have HD6 := hide ((unhide hcut).2.2.next hb6)
      clear HC2 hb6 hcut cq
      have heq : (ByteArray.mk R1.toArray ++ ByteArray.mk x.toArray) = ⟨(R1 ++ x).toArray⟩ := cat_one _ _
      go_wp2_with fail
      refine (unhide HCG _ _ (unhide HD6)).mono ?_
      rintro e w7 ⟨rfl, hb7⟩
      have hB7 := below_next hB6 hb7
      clear HCG hb7 hB6
      go_wp2_with fail
      go_ret
      exact ⟨rfl, hB7⟩
end Go.Proofs.Ytbadhnmljlmefaa
