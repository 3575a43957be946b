/-
  aviaryref.Prepare, at every tree, number and request that are not too long.
  PrepMakes: the walk.
-/
import Derived.Test.YtalnmhgedfgooaaGreatDoorRA
import Derived.Test.YtalnmhgedfgooaaGreatDoorRB
import Derived.Test.YtalnmhgedfgooaaGreatDoorRC
import Derived.Test.YtalnmhgedfgooaaGreatDoorRD
import Derived.Test.YtalnmhgedfgooaaGreatDoorRE
import Derived.Test.YtalnmhgedfgooaaGreatDoorRF
import Derived.Test.YtalnmhgedfgooaaGreatDoorQW
namespace Go.Proofs.YtalnmhgedfgooaaGreatDoor
open Go.RowKit

theorem rprepare_any (t : Tr) (z : Int) (vn vs : Value) (r : Rq) (w : World) (hn : SeqV w vn t.ns) (hs : SeqV w vs t.ss) (hw : WfT t) (hz : t.z ≤ 9223372036854775807) (hzz : z ≤ 9223372036854775807) (hlong : ∀ n ∈ t.ns, n.p.length ≤ 1048576) (hls : t.ss.length * 8 ≤ 140737488351232) (hp : r.p.length ≤ 1048576) (hd : r.d.length ≤ 140737488355328) :
    Calls Tryz.prog 9 #[.agg #[.int .i64 t.z, vn, vs], .int .i64 z, rqV r] w (GivesP w t z r) := by
  cases hh : headB t z r with
  | false => exact rprepare_head t z vn vs r w hn hs hw hz hzz hlong hls (by omega) hd hh
  | true =>
    by_cases h1 : r.o = 1 ∨ r.o = 2
    · exact rprepare_end t z vn vs r w hn hs hw hz hzz hlong hls hp hd hh h1
    · by_cases h4 : r.o = 4
      · exact rprepare_4 t z vn vs r w hn hs hw hz hzz hlong hls hp hd hh h4
      · by_cases h5 : r.o = 5
        · exact rprepare_5 t z vn vs r w hn hs hw hz hzz hlong hls hp hd hh h5
        · by_cases h3 : r.o = 3
          · by_cases hf : 0 ≤ r.f ∧ r.f ≤ 3
            · by_cases hg : goodB r.p = true ∧ r.p ≠ [47]
              · by_cases hm : r.s ∈ t.ss
                · by_cases f2 : r.f = 2
                  · exact rprepare_3fn t z vn vs r w hn hs hw hz hzz hlong hls hp hd hh h3 f2 hg hm
                  · by_cases f3 : r.f = 3
                    · exact rprepare_3gn t z vn vs r w hn hs hw hz hzz hlong hls hp hd hh h3 f3 hg hm
                    · exact rprepare_3p t z vn vs r w hn hs hw hz hzz hlong hls hp hd hh h3 (by omega) hg hm
                · exact rprepare_3s t z vn vs r w hn hs hw hz hzz hlong hls hp hd hh h3 hf hg hm
              · exact rprepare_3f t z vn vs r w hn hs hw hz hzz hlong hls hp hd hh h3 hf hg
            · exact rprepare_3r t z vn vs r w hn hs hw hz hzz hlong hls hp hd hh h3 hf
          · exact rprepare_kind t z vn vs r w hn hs hw hz hzz hlong hls hp hd hh (by omega)

end Go.Proofs.YtalnmhgedfgooaaGreatDoor

namespace Go.Proofs.YtalnmhgedfgooaaGreatDoor
open Go.RowKit

set_option maxRecDepth 20000 in
set_option maxHeartbeats 8000000 in
theorem prepMakes_walk (t : Tr) (vn vs : Value) (z : Int) (r : Rq) (w : World) (hn : SeqV w vn t.ns) (hs : SeqV w vs t.ss) (hw : WfT t) (hz : t.z ≤ 9223372036854775807) (hzz : z ≤ 9223372036854775807) (hlong : ∀ n ∈ t.ns, n.p.length ≤ 1048576) (hl : t.ns.length * 88 ≤ 140737488355328) (hls : t.ss.length * 8 ≤ 140737488351232) (hp : r.p.length ≤ 1048576) (hd : r.d.length ≤ 140737488351232) (htab : Lib.TabIs Tryz.prog w "internal/strconv.uint64pow10" .u64 Lib.pow10Tab) :
    Calls Tryz.prog 3 #[.agg #[.int .i64 t.z, vn, vs], .int .i64 z, rqV r] w fun e w' => e = .returned (.bool true) ∧ Below w.heap.size w w' := by
  have CO := hide (fun W1 (h1 : Below w.heap.size w W1) W (hW : Below W1.heap.size W1 W) => rcopyT_any t vn vs W (hn.next (nnext h1 hW)) (hs.next (nnext h1 hW)) hl (by omega))
  have CQ := hide (fun W1 (h1 : Below w.heap.size w W1) W (hW : Below W1.heap.size W1 W) (vn vs : Value) (hn : SeqV W vn t.ns) (hs : SeqV W vs t.ss) => prepare_any t z vn vs r W hn hs hw (by omega) (by omega) (tab_kept htab (nnext h1 hW)))
  have CR := hide (fun W (hW : Below w.heap.size w W) => rprepare_any t z vn vs r W (hn.next hW) (hs.next hW) hw hz hzz hlong hls hp (by omega))
  have CX := hide (fun W (hW : Below w.heap.size w W) vn vs (hn : SeqV W vn trNew.ns) (hs : SeqV W vs trNew.ss) => prepare_any trNew 1 vn vs rqo W hn hs good_new.wf (by decide) (by decide) (tab_kept htab hW))
  unfold GivesP at CQ CR CX
  rw [prp_open.1, prp_open.2] at CX
  generalize prpE t z r = E at *
  generalize prpX t z r = X at *
  obtain ⟨na, nc, rfl⟩ := seq_slice hn
  obtain ⟨sa, sc, rfl⟩ := seq_slice hs
  clear hn hs hw htab hl hls hz hzz hlong
  obtain ⟨ro, rs, rp, rd, rv, rf⟩ := r
  obtain ⟨xz, xo, xs, xp, xd, xv, xw⟩ := X
  unfold rqV txnV at *
  unfold rqo topn at CX
  simp only at *
  have R00 := hide (TR.new w t.z (.slice na t.ns.length nc) (.slice sa t.ss.length sc) ⟨ro, rs, rp, rd, rv, rf⟩)
  have B00 : Hid (Below w.heap.size w ((w.alloc (.cells #[.int .i64 t.z, .slice na t.ns.length nc, .slice sa t.ss.length sc] 25)).alloc (.cells #[.int .i64 ro, .int .i64 rs, .string ⟨rp.toArray⟩, .string ⟨rd.toArray⟩, .int .i64 rv, .int .i64 rf] 27))) := hide (nnext (allocB _ _) (allocB _ _))
  go_enter Tryz.func3, Tryz.ntmps3
  go_upto_region 1 with fail
  simp only at R00
  obtain ⟨w1, hw1⟩ : ∃ w1, ((w.alloc (.cells #[.int .i64 t.z, .slice na t.ns.length nc, .slice sa t.ss.length sc] 25)).alloc (.cells #[.int .i64 ro, .int .i64 rs, .string ⟨rp.toArray⟩, .string ⟨rd.toArray⟩, .int .i64 rv, .int .i64 rf] 27)) = w1 := ⟨_, rfl⟩
  rw [hw1] at R00 B00 ⊢
  have R0 := R00
  have B1 := B00
  have hq := (unhide R0).lt
  have C1 := hide (unhide CO w1 (unhide B1))
  have C2 := hide (unhide CQ w1 (unhide B1))
  clear hw1 R00 B00 CQ CO
  go_cut [7, 8] from 13 (fun tx te wx => ∃ q, tx = .pointer (some ⟨q, 0, none⟩) ∧ te = .int .i64 E ∧ Hid (PrX w1 wx q ⟨xz, xo, xs, xp, xd, xv, xw⟩))
  case first =>
    clear CR CX
    go_region_held3 (fun w' => w'.cell? ⟨w.heap.size, 0, none⟩ = some (.int .i64 t.z) ∧ w'.cell? ⟨w.heap.size, 1, none⟩ = some (.slice na t.ns.length nc) ∧ w'.cell? ⟨w.heap.size, 2, none⟩ = some (.slice sa t.ss.length sc) ∧ w'.cell? ⟨w.heap.size + 1, 0, none⟩ = some (.int .i64 ro) ∧ w'.cell? ⟨w.heap.size + 1, 1, none⟩ = some (.int .i64 rs) ∧ w'.cell? ⟨w.heap.size + 1, 2, none⟩ = some (.string ⟨rp.toArray⟩) ∧ w'.cell? ⟨w.heap.size + 1, 3, none⟩ = some (.string ⟨rd.toArray⟩) ∧ w'.cell? ⟨w.heap.size + 1, 4, none⟩ = some (.int .i64 rv) ∧ w'.cell? ⟨w.heap.size + 1, 5, none⟩ = some (.int .i64 rf)) (first | with_reducible exact (unhide R0).nine | with_reducible exact (unhide R0).drew.nine | with_reducible exact ((unhide R0).next (allocB _ _)).nine | with_reducible exact ((unhide R0).next (allocB _ _)).drew.nine | with_reducible exact ((unhide R0).drew.next (allocB _ _)).nine | with_reducible exact (unhide aX1).nine | with_reducible exact ((unhide aX1).next (allocB _ _)).nine | with_reducible exact (unhide aX2).nine | with_reducible exact ((unhide aX2).next (allocB _ _)).nine | with_reducible exact ((((((((unhide aX2).other _ (by simp only; omega)).other _ (by simp only; omega)).other _ (by simp only; omega)).other _ (by simp only; omega)).other _ (by simp only; omega)).other _ (by simp only; omega)).other _ (by simp only; omega)).nine) (first
      | (go_at_call 8; refine (unhide C1 _ (by first | with_reducible exact (Below.refl _ _).drew | with_reducible exact (allocB _ _).drew | with_reducible exact nnext (Below.refl _ _).drew (allocB _ _))).mono ?_; rintro e aw1 ⟨avn1, avs1, rfl, on1, os1, hb1⟩; have aB1 : Hid (Below w1.heap.size w1 aw1) := hide (nnext (by first | with_reducible exact (Below.refl _ _).drew | with_reducible exact (allocB _ _).drew | with_reducible exact nnext (Below.refl _ _).drew (allocB _ _)) hb1); have aN1 := hide on1.seq; have aS1 := hide os1.seq; have aX1 := hide ((unhide R0).next (unhide aB1)); have ah1 := (unhide aB1).size; (try have aZ1 : Hid (TAt aw1 w1.heap.size t0) := hide ((hb1.block _ (by simp)).trans (heap_alloc_new w1 _))); clear on1 os1 hb1)
      | (go_at_call 7; refine (unhide C2 _ (by first | with_reducible exact unhide aB1 | with_reducible exact nnext (unhide aB1) (allocB _ _)) _ _ (by first | with_reducible exact unhide aN1 | with_reducible exact (unhide aN1).next (allocB _ _)) (by first | with_reducible exact unhide aS1 | with_reducible exact (unhide aS1).next (allocB _ _))).mono ?_; rintro e aw2 ⟨rfl, hb2⟩; have aB2 : Hid (Below w1.heap.size w1 aw2) := (by first | with_reducible exact hide (nnext (unhide aB1) hb2) | with_reducible exact hide (nnext (unhide aB1) (nbox_then hb2))); have aX2 := hide ((unhide R0).next (unhide aB2)); have ah2 := hb2.size; (try (have ak1 := (unhide aZ1).lt; have aZ2 : Hid (TAt aw2 w1.heap.size t0) := hide ((hb2.block _ ak1).trans (unhide aZ1)); obtain ⟨⟨az0, az1, az2, az3, az4, az5, az6⟩, af0, af1, af2, af3, af4, af5, af6⟩ := zcells7 (unhide aZ2))); (try (have aY2 : Hid (TAt aw2 aw1.heap.size t0) := hide ((hb2.block _ (by simp)).trans (heap_alloc_new aw1 _)); obtain ⟨⟨ay0, ay1, ay2, ay3, ay4, ay5, ay6⟩, ag0, ag1, ag2, ag3, ag4, ag5, ag6⟩ := zcells7 (unhide aY2))); clear hb2))
    all_goals go_wp2_with fail
    all_goals go_meet
    all_goals refine ⟨_, rfl, rfl, hide ?_⟩
    all_goals first
      | with_reducible exact px_newF xz xo xs xp xd xv xw (unhide aB2)
      | with_reducible exact px_putF xz xo xs xp xd xv xw (unhide aB2) ah1 (unhide aY2)
      | with_reducible exact px_putF xz xo xs xp xd xv xw (unhide aB2) (Nat.le_refl _) (unhide aZ2)
  case rest =>
  obtain ⟨q, rfl, rfl, A1⟩ := hcut
  have R1 := hide ((unhide R0).next (unhide A1).b)
  have B2 := hide (nnext (unhide B1) (unhide A1).b)
  obtain ⟨b0, b1, b2, b3, b4, b5, b6, b7, b8⟩ := (unhide R1).nine
  simp only at b0 b1 b2 b3 b4 b5 b6 b7 b8
  clear C1 C2 R0 B1
  go_wp2_with fail
  refine (unhide CR _ (unhide B2)).mono ?_
  rintro e w2 ⟨rfl, hb2⟩
  have A2 := hide ((unhide A1).box.next (nnext hb2 (allocB w2 (.cells #[.int .i64 xz, .int .i64 xo, .int .i64 xs, .string ⟨xp.toArray⟩, .string ⟨xd.toArray⟩, .int .i64 xv, .int .i64 xw] 29))))
  have A3 := hide (TAt.new w2 ⟨xz, xo, xs, xp, xd, xv, xw⟩)
  have B3 := hide (nnext (unhide B2) (nnext hb2 (allocB w2 (.cells #[.int .i64 xz, .int .i64 xo, .int .i64 xs, .string ⟨xp.toArray⟩, .string ⟨xd.toArray⟩, .int .i64 xv, .int .i64 xw] 29))))
  simp only at A3
  clear hb2 b0 b1 b2 b3 b4 b5 b6 b7 b8 R1 B2 A1 CR
  go_wp2_with fail
  refine (rnew_any _).mono ?_
  rintro e w3 ⟨vn3, vs3, rfl, n3, s3, hb3⟩
  have A4 := hide ((unhide A2).next hb3)
  have A5 := hide ((unhide A3).next hb3)
  have B4 := hide (nnext (unhide B3) hb3)
  have N3 := hide n3.seq
  have S3 := hide s3.seq
  clear n3 s3 hb3 A2 A3 B3
  go_wp2_with fail
  refine (unhide CX _ (unhide B4) _ _ (unhide N3) (unhide S3)).mono ?_
  rintro e w4 ⟨rfl, hb4⟩
  have A6 := hide ((unhide A4).next (nnext hb4 (allocB w4 (.cells #[.int .i64 1, .int .i64 1, .int .i64 1, .string ⟨#[]⟩, .string ⟨#[]⟩, .int .i64 0, .int .i64 0] 29))))
  have A7 := hide ((unhide A5).next (nnext hb4 (allocB w4 (.cells #[.int .i64 1, .int .i64 1, .int .i64 1, .string ⟨#[]⟩, .string ⟨#[]⟩, .int .i64 0, .int .i64 0] 29))))
  have A8 := hide (TAt.new w4 ⟨1, 1, 1, [], [], 0, 0⟩)
  have B5 := hide (nnext (unhide B4) (nnext hb4 (allocB w4 (.cells #[.int .i64 1, .int .i64 1, .int .i64 1, .string ⟨#[]⟩, .string ⟨#[]⟩, .int .i64 0, .int .i64 0] 29))))
  simp only at A8
  clear hb4 A4 A5 B4 N3 S3 CX
  go_upto_region 4 with fail
  obtain ⟨w5, hw5⟩ : ∃ w5, w4.alloc (.cells #[.int .i64 1, .int .i64 1, .int .i64 1, .string ⟨#[]⟩, .string ⟨#[]⟩, .int .i64 0, .int .i64 0] 29) = w5 := ⟨_, rfl⟩
  rw [hw5] at A6 A7 A8 B5 ⊢
  clear hw5
  obtain ⟨a0, a1, a2, a3, a4, a5, a6⟩ := (unhide A6).seven
  obtain ⟨b0, b1, b2, b3, b4, b5, b6⟩ := (unhide A7).seven
  obtain ⟨c0, c1, c2, c3, c4, c5, c6⟩ := (unhide A8).seven
  simp only at a0 a1 a2 a3 a4 a5 a6 b0 b1 b2 b3 b4 b5 b6 c0 c1 c2 c3 c4 c5 c6
  go_region_law (first
    | (go_simp; refine (lopened_any _).mono ?_; rintro e aw1 ⟨g, rfl, hg, ht, hb1⟩; have aB : Hid (Below w5.heap.size w5 aw1) := hide (by first | with_reducible exact hb1 | with_reducible exact nbelow_drew hb1); have aX := (unhide A8).next (unhide aB); obtain ⟨d0, d1, d2, d3, d4, d5, d6⟩ := aX.seven; obtain ⟨t0', t1', t2', t3', t4', t5', t6'⟩ := ht.seven; simp only [topn] at t0' t1' t2' t3' t4' t5' t6' d0 d1 d2 d3 d4 d5 d6; clear hb1 ht aX))
  all_goals go_wp2_with fail
  all_goals go_ret
  all_goals exact ⟨rfl, nnext (unhide B5) (unhide aB)⟩

end Go.Proofs.YtalnmhgedfgooaaGreatDoor
