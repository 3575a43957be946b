/-
  aviaryref's Apply: what it answers, of every tree and transaction.
  What the laws that hold Apply against the document's own share: how long its answers are, the law's opened.
-/
import Derived.Test.YtalnmhgedfgooaaGreatDoorQQ
import Derived.Test.YtalnmhgedfgooaaGreatDoorQR
import Derived.Test.YtalnmhgedfgooaaGreatDoorQT
import Derived.Test.YtalnmhgedfgooaaGreatDoorQU
import Derived.Test.YtalnmhgedfgooaaGreatDoorQV
import Derived.Test.YtalnmhgedfgooaaGreatDoorMI
import Derived.Test.YtalnmhgedfgooaaGreatDoorQL
namespace Go.Proofs.YtalnmhgedfgooaaGreatDoor
open Go.RowKit

theorem adm_of {t : Tr} {x : WTxn} (h : admE t x = 0) : Adm t x := by
  obtain ⟨g, hg, hz, h1, h2⟩ := adm_zero h
  refine ⟨goodT_true.2 g, hg, by omega, ?_, h⟩
  by_cases ho : x.o = 1
  · rw [decide_eq_false (h1 ho), decide_eq_true ho]; rfl
  · rw [decide_eq_true (h2 ho), decide_eq_false ho]; rfl
theorem rcre_any (t : Tr) (x : WTxn) (vn vs : Value) (w : World) (hn : SeqV w vn t.ns) (hs : SeqV w vs t.ss) (ar : Args t x) (ha : admE t x = 0) (ho : x.o = 3) (hls : t.ss.length * 8 ≤ 140737488351232) :
    Calls Tryz.prog 30 #[.agg #[.int .i64 t.z, vn, vs], txnV x] w (GivesR w t x) := by
  have ad := adm_of ha
  obtain ⟨g, hg, hz, h1, h2⟩ := adm_zero ha
  have f := fine_of hg
  obtain ⟨hp1, hp2⟩ := f.path (.inl ho)
  have hE : chgE t x = creE t x := by rw [chgE, if_pos ho]
  have few := g.nod.few
  rcases nwhere x.p t.ns g.nod.asc with ⟨A, n, B, T⟩ | ⟨A, B, G⟩
  · exact rcre_8 t x vn vs w hn hs ar ad ho A B n T (by rw [hE, creE, T.look, if_pos (by rfl)])
  · rcases nwhere (dirOf x.p) t.ns g.nod.asc with ⟨A', u, B', U⟩ | ⟨A', B', U⟩
    · by_cases hu : u.o = 0
      · have hum : u ∈ t.ns := by rw [U.eq]; simp
        have ku := g.nod.ok u hum
        have hkc := g.cap u hum
        have hkn := ku.kids
        have hkl : kidsN t.ns u.p ≤ t.ns.length := List.countP_le_length
        by_cases hw : x.w = 0 ∨ x.w = x.s
        · by_cases hf : t.ns.length = 400
          · have hc : chgE t x = 6 := by
              rw [hE, creE, G.look, if_neg (by simp), U.look]
              simp only
              rw [if_neg (by omega), if_neg (by rintro ⟨a, c⟩; rcases hw with e | e <;> omega), if_pos hf]
            by_cases hw0 : x.w = 0
            · exact rcre_6a t x vn vs w hn hs ar ad ho A B G A' B' u U hu hw0 hf hc
            · exact rcre_6b t x vn vs w hn hs ar ad ho A B G A' B' u U hu ⟨hw0, by omega⟩ hf hc
          · have hc : chgE t x = 0 := by
              rw [hE, creE, G.look, if_neg (by simp), U.look]
              simp only
              rw [if_neg (by omega), if_neg (by rintro ⟨a, c⟩; rcases hw with e | e <;> omega), if_neg hf]
            have gn : GoodN x.z t.ns t.ss := g.nod.mono (by omega)
            have hsm : x.s ∈ t.ss := h2 (by omega)
            have ga := add_good (x := newN x) gn G (by omega) hp1 hp2 ⟨u, hum, U.nm, hu⟩ f.d f.z.1 rfl rfl rfl rfl rfl rfl (by
              rcases hw with c | c
              · exact .inl c
              · exact .inr (by show x.w ∈ t.ss; rw [c]; exact hsm))
            have hins : insN t.ns (newN x) = A ++ newN x :: B := G.ins
            have hasc : NAsc (A ++ newN x :: B) := by
              have := (nasc_paths _).1 ga.asc
              rw [addN, bumpAt_paths, hins] at this
              exact (nasc_paths _).2 this
            have humI : u ∈ A ++ newN x :: B := by
              have := hum
              rw [G.eq] at this
              rcases List.mem_append.1 this with e | e <;> simp [e]
            obtain ⟨A2, B2, U2⟩ : ∃ A2 B2, NThere (A ++ newN x :: B) A2 u B2 (dirOf x.p) := by
              rw [← U.nm]
              exact there_of_look hasc (look_mem hasc humI)
            by_cases hw0 : x.w = 0
            · exact rcre_a t x vn vs w hn hs ar ad ho A B G A' B' u U hu hw0 (by omega) A2 B2 U2 ⟨ku.k0, hkc⟩ ⟨by omega, by omega⟩ hls hc
            · exact rcre_b t x vn vs w hn hs ar ad ho A B G A' B' u U hu ⟨hw0, by omega⟩ (by omega) A2 B2 U2 ⟨ku.k0, hkc⟩ ⟨by omega, by omega⟩ hls hc
        · exact rcre_12 t x vn vs w hn hs ar ad ho A B G A' B' u U hu ⟨fun e => hw (.inl e), fun e => hw (.inr e)⟩ (by
            rw [hE, creE, G.look, if_neg (by simp), U.look]
            simp only
            rw [if_neg (by omega), if_pos ⟨fun e => hw (.inl e), fun e => hw (.inr e)⟩])
      · exact rcre_11 t x vn vs w hn hs ar ad ho A B G A' B' u U hu (by
          rw [hE, creE, G.look, if_neg (by simp), U.look]
          simp only
          rw [if_pos hu])
    · exact rcre_7 t x vn vs w hn hs ar ad ho A B G A' B' U (by rw [hE, creE, G.look, if_neg (by simp), U.look])
theorem rdel_any (t : Tr) (x : WTxn) (vn vs : Value) (w : World) (hn : SeqV w vn t.ns) (hs : SeqV w vs t.ss) (ar : Args t x) (ha : admE t x = 0) (ho : x.o = 4) (hls : t.ss.length * 8 ≤ 140737488351232) :
    Calls Tryz.prog 30 #[.agg #[.int .i64 t.z, vn, vs], txnV x] w (GivesR w t x) := by
  have ad := adm_of ha
  obtain ⟨g, hg, hz, h1, h2⟩ := adm_zero ha
  have f := fine_of hg
  obtain ⟨hp1, hp2⟩ := f.path (.inr ho)
  have few := g.nod.few
  have hE : chgE t x = delE t x := by rw [chgE, if_neg (by omega), if_pos ho]
  rcases nwhere x.p t.ns g.nod.asc with ⟨A, n, B, T⟩ | ⟨A, B, G⟩
  · have hnm : n ∈ t.ns := by rw [T.eq]; simp
    by_cases hk : n.n = 0
    · have hd0 : chgE t x = 0 := by rw [hE, delE, T.look]; simp only; rw [if_neg (by omega)]
      have gn : GoodN x.z t.ns t.ss := g.nod.mono (by omega)
      obtain ⟨u, hu1, hu2, hu3, hu4, hu5⟩ := up_look gn hnm (by rw [T.nm]; exact hp2)
      rw [T.nm] at hu1 hu3 hu4
      obtain ⟨A', B', T'⟩ := there_drop gn.asc T hu2 hu3 hu4
      have ku := gn.ok u hu2
      have hkc := g.cap u hu2
      have hkn := ku.kids
      have hkl : kidsN t.ns u.p ≤ t.ns.length := List.countP_le_length
      exact rdel_ok t x vn vs w hn hs ar ad ho A B n T hk A' B' u T' ⟨ku.k0, hkc⟩ ⟨by omega, by omega⟩ hls hd0
    · have h0 : 0 < n.n := by have := (g.nod.ok n hnm).kids; omega
      exact rdel_10 t x vn vs w hn hs ar ad ho A B n T h0 (by rw [hE, delE, T.look]; simp only; rw [if_pos hk])
  · exact rdel_7 t x vn vs w hn hs ar ad ho A B G (by rw [hE, delE, G.look])
theorem rset_any (t : Tr) (x : WTxn) (vn vs : Value) (w : World) (hn : SeqV w vn t.ns) (hs : SeqV w vs t.ss) (ar : Args t x) (ha : admE t x = 0) (ho : x.o = 5) (hls : t.ss.length * 8 ≤ 140737488351232) :
    Calls Tryz.prog 30 #[.agg #[.int .i64 t.z, vn, vs], txnV x] w (GivesR w t x) := by
  have ad := adm_of ha
  obtain ⟨g, hg, hz, h1, h2⟩ := adm_zero ha
  have hE : chgE t x = setE t x := by rw [chgE, if_neg (by omega), if_neg (by omega), if_pos ho]
  rcases nwhere x.p t.ns g.nod.asc with ⟨A, n, B, T⟩ | ⟨A, B, G⟩
  · have hnm : n ∈ t.ns := by rw [T.eq]; simp
    have kn := g.nod.ok n hnm
    by_cases hv : x.v = n.v + 1
    · exact rset_ok t x vn vs w hn hs ar ad ho A B n T hv ⟨kn.v0, kn.v1⟩ hls (by rw [hE, setE, T.look]; simp only; rw [if_neg (by omega)])
    · exact rset_9 t x vn vs w hn hs ar ad ho A B n T hv ⟨kn.v0, kn.v1⟩ (by rw [hE, setE, T.look]; simp only; rw [if_pos hv])
  · exact rset_7 t x vn vs w hn hs ar ad ho A B G (by rw [hE, setE, G.look])
/-- aviaryref.Apply -/
theorem rapply_any (t : Tr) (x : WTxn) (vn vs : Value) (w : World) (hn : SeqV w vn t.ns) (hs : SeqV w vs t.ss) (ar : Args t x) (hls : t.ss.length * 8 ≤ 140737488351232) :
    Calls Tryz.prog 30 #[.agg #[.int .i64 t.z, vn, vs], txnV x] w (GivesR w t x) := by
  by_cases ha : admE t x = 0
  · have f := (fine_of (adm_zero ha).2.1).op
    by_cases h1 : x.o = 1
    · exact rope_ok t x vn vs w hn hs ar (adm_of ha) h1 hls (by rw [chgE, if_neg (by omega), if_neg (by omega), if_neg (by omega)])
    · by_cases h2 : x.o = 2
      · exact rclo_ok t x vn vs w hn hs ar (adm_of ha) h2 hls (by rw [chgE, if_neg (by omega), if_neg (by omega), if_neg (by omega)])
      · by_cases h3 : x.o = 3
        · exact rcre_any t x vn vs w hn hs ar ha h3 hls
        · by_cases h4 : x.o = 4
          · exact rdel_any t x vn vs w hn hs ar ha h4 hls
          · exact rset_any t x vn vs w hn hs ar ha (by omega) hls
  · exact rapp_adm t x vn vs w hn hs ar ha

end Go.Proofs.YtalnmhgedfgooaaGreatDoor

namespace Go.Proofs.YtalnmhgedfgooaaGreatDoor
open Go.RowKit

/-- what Apply answers is short -/
theorem app_short (t : Tr) (x : WTxn) : (appT t x).ns.length ≤ 140737488355328 ∧ (appT t x).ss.length ≤ 140737488355328 ∧ (appV t x).length ≤ 140737488355328 := by
  by_cases h : appE t x = 0
  · obtain ⟨g2, _, _⟩ := app_good h
    obtain ⟨ha, _⟩ := app_zero h
    obtain ⟨g, _, _⟩ := adm_zero ha
    have few := g.nod.few
    refine ⟨by have := g2.nod.few; omega, by have := sasc_len g2.ses; omega, ?_⟩
    rw [appV, if_pos h, chgV]
    split
    · rw [rmEv_len]
      have : (ownedP t.ns x.s).length ≤ t.ns.length := by
        rw [ownedP, List.length_map]
        exact List.length_filter_le _ _
      omega
    · split
      · simp
      · split
        · simp
        · split <;> simp
  · rw [appT, if_neg h, appV, if_neg h]
    exact ⟨by decide, by decide, by decide⟩

set_option maxHeartbeats 400000 in
theorem lopened_any (w : World) : Calls Tryz.prog 11 #[] w fun e w' => ∃ g, e = .returned (.slice (some ⟨g, 0, none⟩) 1 1) ∧ w.heap.size ≤ g ∧ TAt w' g topn ∧ Below w.heap.size w w' := by
  have HL := hide (TAt.new w topn)
  go_enter Tryz.func11, Tryz.ntmps11
  go_wp2_with fail
  exact bodyPost_ret (v := .slice (some ⟨w.heap.size, 0, none⟩) 1 1) (by simp [results, Tryz.results11, go_sem]) rfl ⟨_, rfl, Nat.le_refl _, unhide HL, (Below.refl _ _).alloc (Nat.le_refl _) _⟩

end Go.Proofs.YtalnmhgedfgooaaGreatDoor
