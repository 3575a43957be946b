/-
  What growth's steps come to, op by op, in the words of the plain answer.
  What growth's change does: the walks.
  What tree.Apply answers, at every tree and transaction: the walks.
  Copies of a tree (aviarykeep.own, aviaryref.CopyTree), tree.New and tree.Get: the walks.
  tree.Get and tree.Kids: the walks.
  A tree as an argument: opened into its nodes and sessions; what its weights say of their lengths.
  A tree as an argument, with what its bulk says of its paths.
  What the laws of trees share: the boxes of a tree and a transaction, what Apply leaves, grows.
  TreeKeeps: the walk.
  TreeMakes: what is claimed, as plain lists.
-/
import Derived.Test.YtalnmhgedfgooaaGreatDoorMH
import Derived.Test.YtalnmhgedfgooaaGreatDoorMF
import Derived.Test.YtalnmhgedfgooaaGreatDoorMC
import Derived.Test.YtalnmhgedfgooaaGreatDoorMG
import Derived.Deep.CutRange
import Derived.Test.YtalnmhgedfgooaaGreatDoorMD
import Derived.ProofKit
import Derived.OpenShut
import Derived.SizedLaws
import Derived.Deep.Slices
import Derived.Carry
import Derived.Test.YtalnmhgedfgooaaGreatDoorRows
import Derived.Deep.RegionHeld3
namespace Go.Proofs.YtalnmhgedfgooaaGreatDoor
open Go.RowKit

def chgF (t : Tr) (x : WTxn) : Int := if chgE t x ≠ 0 then chgE t x else if fullN (chgN t x) = true then 6 else 0
theorem appE_adm {t : Tr} {x : WTxn} (h : admE t x ≠ 0) : appE t x = admE t x := by rw [appE, if_pos h]
theorem appE_chg {t : Tr} {x : WTxn} (h : admE t x = 0) : appE t x = chgF t x := by rw [appE, if_neg (by omega), chgF]
theorem chgF_err {t : Tr} {x : WTxn} {E : Int} (h : chgE t x = E) (h0 : E ≠ 0) : chgF t x = E := by rw [chgF, if_pos (by omega), h]
theorem chgF_full {t : Tr} {x : WTxn} (h : chgE t x = 0) (hf : fullN (chgN t x) = true) : chgF t x = 6 := by rw [chgF, if_neg (by omega), if_pos hf]
theorem chgF_ok {t : Tr} {x : WTxn} (h : chgE t x = 0) (hf : fullN (chgN t x) = false) : chgF t x = 0 := by rw [chgF, if_neg (by omega), if_neg (by simp [hf])]

theorem bumpAt_length (p : List UInt8) (z more : Int) (ns : List Nd) : (bumpAt p z more ns).length = ns.length := by rw [bumpAt, List.length_map]
theorem mem_bumpAt {p : List UInt8} {z more : Int} {ns : List Nd} {n : Nd} (h : n ∈ bumpAt p z more ns) : ∃ m ∈ ns, n = (if m.p = p then bump z more m else m) := by
  rw [bumpAt] at h
  obtain ⟨m, hm, rfl⟩ := List.mem_map.1 h
  exact ⟨m, hm, rfl⟩
theorem bumpAt_mem {p : List UInt8} {z more : Int} {ns : List Nd} {m : Nd} (h : m ∈ ns) (hp : m.p = p) : bump z more m ∈ bumpAt p z more ns := by
  rw [bumpAt]
  exact List.mem_map.2 ⟨m, h, by rw [if_pos hp]⟩
theorem bump_full {p : List UInt8} {z more : Int} {ns : List Nd} {u : Nd} (h : u ∈ ns) (hp : u.p = p) (hk : u.k = 2147483647) : fullN (bumpAt p z more ns) = true :=
  fullN_true.2 ⟨_, bumpAt_mem h hp, by show 2147483647 < u.k + 1; omega⟩
theorem bump_room {p : List UInt8} {z more : Int} {ns : List Nd} {u : Nd} (ha : NAsc ns) (h : u ∈ ns) (hp : u.p = p) (hk : u.k < 2147483647) (hc : ∀ n ∈ ns, n.k ≤ 2147483647) : fullN (bumpAt p z more ns) = false := by
  rw [fullN_false]
  intro n hn
  obtain ⟨m, hm, rfl⟩ := mem_bumpAt hn
  split
  · rename_i e
    have : m = u := nasc_uniq ha hm h (by rw [e, hp])
    subst this
    show m.k + 1 ≤ _; omega
  · exact hc m hm

/-- what a step comes to -/
def Chg (F : Nat → Prop) (b : Nat) (t : Tr) (x : WTxn) (w : World) (e : Ending) (w' : World) : Prop :=
  e = .returned (.int .i64 (chgF t x)) ∧ Touch F w w' ∧ (chgF t x = 0 → ∃ vn vs ve, Grow w' F b x.z vn vs ve (chgN t x) (chgS t x) (chgV t x))
theorem Chg.no {F : Nat → Prop} {b : Nat} {t : Tr} {x : WTxn} {w w' : World} {e : Ending} {E : Int} (h : e = .returned (.int .i64 E) ∧ Touch F w w') (hE : chgF t x = E) (h0 : E ≠ 0) : Chg F b t x w e w' :=
  ⟨by rw [hE]; exact h.1, h.2, fun h' => by omega⟩

theorem cre_any (F : Nat → Prop) (b : Nat) (t : Tr) (vn vs ve : Value) (x : WTxn) (w : World) (h : Grow w F b x.z vn vs ve t.ns t.ss []) (hF : ∀ k, w.heap.size ≤ k → F k) (ha : admE t x = 0) (ho : x.o = 3) :
    Calls Tryz.prog 61 #[.pointer (some ⟨b, 0, none⟩), txnV x] w (Chg F b t x w) := by
  obtain ⟨g, hg, hz, h1, h2⟩ := adm_zero ha
  have f := fine_of hg
  obtain ⟨hp1, hp2⟩ := f.path (.inl ho)
  have hpl := goodB_le hp1
  have hdl := f.d
  have hdo := dirOf_len x.p
  have hE : chgE t x = creE t x := by rw [chgE, if_pos ho]
  have hN : chgN t x = addN x.z t.ns (newN x) := by rw [chgN, if_neg (by omega), if_pos ho]
  have hS : chgS t x = t.ss := by rw [chgS, if_neg (by omega), if_neg (by omega)]
  have hV : chgV t x = [⟨1, x.p⟩, ⟨4, dirOf x.p⟩] := by rw [chgV, if_neg (by omega), if_pos ho]
  have few := g.nod.few
  rcases nwhere x.p t.ns g.nod.asc with ⟨A, n, B, T⟩ | ⟨A, B, G⟩
  · refine (cre_twice F b x.z vn vs ve t.ns A B n t.ss [] x w h T few g.nod.asc).mono fun e w' q => Chg.no q ?_ (by decide)
    exact chgF_err (by rw [hE, creE, T.look, if_pos (by rfl)]) (by decide)
  · rcases nwhere (dirOf x.p) t.ns g.nod.asc with ⟨A', u, B', U⟩ | ⟨A', B', U⟩
    · by_cases hu : u.o = 0
      · have hum : u ∈ t.ns := by rw [U.eq]; simp
        have ku := g.nod.ok u hum
        have hkc := g.cap u hum
        have hkn := ku.kids
        have hkl : kidsN t.ns u.p ≤ t.ns.length := List.countP_le_length
        by_cases hw : x.w = 0 ∨ x.w = x.s
        · by_cases hf : t.ns.length = 400
          · have hc : creE t x = 6 := by
              rw [creE, G.look, if_neg (by simp), U.look]
              simp only
              rw [if_neg (by omega), if_neg (by rintro ⟨a, c⟩; rcases hw with e | e <;> omega), if_pos hf]
            by_cases hw0 : x.w = 0
            · exact (cre_full0 F b x.z vn vs ve t.ns A B A' B' u t.ss [] x w h G U hu hw0 hf).mono fun e w' q => Chg.no q (chgF_err (by rw [hE, hc]) (by decide)) (by decide)
            · exact (cre_full1 F b x.z vn vs ve t.ns A B A' B' u t.ss [] x w h G U hu hw0 (by omega) hf).mono fun e w' q => Chg.no q (chgF_err (by rw [hE, hc]) (by decide)) (by decide)
          · have hc : creE t x = 0 := by
              rw [creE, G.look, if_neg (by simp), U.look]
              simp only
              rw [if_neg (by omega), if_neg (by rintro ⟨a, c⟩; rcases hw with e | e <;> omega), if_neg hf]
            have gn : GoodN x.z t.ns t.ss := g.nod.mono (by omega)
            have hsm : x.s ∈ t.ss := h2 (by omega)
            have ga := add_good (x := newN x) gn G (by omega) hp1 hp2 ⟨u, hum, U.nm, hu⟩ f.d f.z.1 rfl rfl rfl rfl rfl rfl (by
              rcases hw with c | c
              · exact .inl c
              · exact .inr (by show x.w ∈ t.ss; rw [c]; exact hsm))
            have hins : insN t.ns (newN x) = A ++ newN x :: B := G.ins
            have hasc : NAsc (A ++ newN x :: B) := by
              have := (nasc_paths _).1 ga.asc
              rw [addN, bumpAt_paths, hins] at this
              exact (nasc_paths _).2 this
            have humI : u ∈ A ++ newN x :: B := by
              have := hum
              rw [G.eq] at this
              rcases List.mem_append.1 this with e | e <;> simp [e]
            obtain ⟨A2, B2, U2⟩ : ∃ A2 B2, NThere (A ++ newN x :: B) A2 u B2 (dirOf x.p) := by
              rw [← U.nm]
              exact there_of_look hasc (look_mem hasc humI)
            have hlen : (A ++ newN x :: B).length ≤ 400 := by rw [← hins, ← bumpAt_length (dirOf x.p) x.z 1]; exact ga.few
            by_cases hk : u.k = 2147483647
            · have hfu : chgF t x = 6 := chgF_full (by rw [hE, hc]) (by rw [hN, addN, hins]; exact bump_full humI U.nm hk)
              have P : ∀ W vn' ve', Grow W F b x.z vn' vs ve' (A ++ newN x :: B) t.ss ([] ++ [⟨1, x.p⟩]) → w.heap.size ≤ W.heap.size → Touch F w W → Calls Tryz.prog 78 #[.pointer (some ⟨b, 0, none⟩), .string ⟨(dirOf x.p).toArray⟩, .int .i64 1] W fun e w' => e = .returned (.int .i64 6) ∧ Touch F w w' := by
                intro W vn' ve' hG hs ht
                refine (parent_full F b x.z vn' vs ve' _ A2 B2 u t.ss _ (dirOf x.p) 1 W hG U2 hlen hk).mono ?_
                rintro e w' ⟨rfl, t'⟩
                exact ⟨rfl, ht.trans t'⟩
              exact (cre_main F b x.z vn vs ve t.ns A B A' B' u 6 _ t.ss [] x w h hF G U few hu hw (by omega) (by omega) (by omega) (by simp) P).mono fun e w' q => Chg.no q hfu (by decide)
            · have hcapI : ∀ n ∈ A ++ newN x :: B, n.k ≤ 2147483647 := by
                intro n hn
                rcases List.mem_append.1 hn with e | e
                · exact g.cap n (by rw [G.eq]; simp [e])
                · rcases List.mem_cons.1 e with rfl | e
                  · show (0 : Int) ≤ _; decide
                  · exact g.cap n (by rw [G.eq]; simp [e])
              have hfu : chgF t x = 0 := chgF_ok (by rw [hE, hc]) (by rw [hN, addN, hins]; exact bump_room hasc humI U.nm (by omega) hcapI)
              have P : ∀ W vn' ve', Grow W F b x.z vn' vs ve' (A ++ newN x :: B) t.ss ([] ++ [⟨1, x.p⟩]) → w.heap.size ≤ W.heap.size → Touch F w W → Calls Tryz.prog 78 #[.pointer (some ⟨b, 0, none⟩), .string ⟨(dirOf x.p).toArray⟩, .int .i64 1] W fun e w' => e = .returned (.int .i64 0) ∧ ((∃ vn' ve', Grow w' F b x.z vn' vs ve' (chgN t x) t.ss (chgV t x)) ∧ Touch F w w') := by
                intro W vn' ve' hG hs ht
                refine (parent_ok F b x.z vn' vs ve' _ A2 B2 u t.ss _ (dirOf x.p) 1 W hG (fun k hk => hF k (by omega)) U2 hlen ⟨ku.k0, by omega⟩ (by omega) (by omega) (by omega) (by simp)).mono ?_
                rintro e w' ⟨rfl, ve2, g', t'⟩
                refine ⟨rfl, ⟨vn', ve2, ?_⟩, ht.trans t'⟩
                have e1 : chgN t x = A2 ++ bump x.z 1 u :: B2 := by
                  rw [hN, addN, hins]
                  exact U2.bump x.z 1
                rw [e1, hV]
                exact g'
              have fin : ∀ (e : Ending) (w' : World), (e = .returned (.int .i64 0) ∧ ((∃ vn' ve', Grow w' F b x.z vn' vs ve' (chgN t x) t.ss (chgV t x)) ∧ Touch F w w')) → Chg F b t x w e w' := by
                rintro e w' ⟨rfl, ⟨vn', ve', g'⟩, t'⟩
                exact ⟨by rw [hfu], t', fun _ => ⟨vn', vs, ve', by rw [hS]; exact g'⟩⟩
              exact (cre_main F b x.z vn vs ve t.ns A B A' B' u 0 _ t.ss [] x w h hF G U few hu hw (by omega) (by omega) (by omega) (by simp) P).mono fin
        · have hw1 : x.w ≠ 0 := fun e => hw (.inl e)
          have hw2 : x.w ≠ x.s := fun e => hw (.inr e)
          refine (cre_ses F b x.z vn vs ve t.ns A B A' B' u t.ss [] x w h G U few hu hw1 hw2).mono fun e w' q => Chg.no q ?_ (by decide)
          refine chgF_err ?_ (by decide)
          rw [hE, creE, G.look, if_neg (by simp), U.look]
          simp only
          rw [if_neg (by omega), if_pos ⟨hw1, hw2⟩]
      · refine (cre_owned F b x.z vn vs ve t.ns A B A' B' u t.ss [] x w h G U few hu).mono fun e w' q => Chg.no q ?_ (by decide)
        refine chgF_err ?_ (by decide)
        rw [hE, creE, G.look, if_neg (by simp), U.look]
        simp only
        rw [if_pos hu]
    · refine (cre_none F b x.z vn vs ve t.ns A B A' B' t.ss [] x w h G U few).mono fun e w' q => Chg.no q ?_ (by decide)
      refine chgF_err ?_ (by decide)
      rw [hE, creE, G.look, if_neg (by simp), U.look]

theorem del_any (F : Nat → Prop) (b : Nat) (t : Tr) (vn vs ve : Value) (x : WTxn) (w : World) (h : Grow w F b x.z vn vs ve t.ns t.ss []) (hF : ∀ k, w.heap.size ≤ k → F k) (ha : admE t x = 0) (ho : x.o = 4) :
    Calls Tryz.prog 62 #[.pointer (some ⟨b, 0, none⟩), .string ⟨x.p.toArray⟩] w (Chg F b t x w) := by
  obtain ⟨g, hg, hz, h1, h2⟩ := adm_zero ha
  have f := fine_of hg
  obtain ⟨hp1, hp2⟩ := f.path (.inr ho)
  have hpl := goodB_le hp1
  have hdo := dirOf_len x.p
  have few := g.nod.few
  have hE : chgE t x = delE t x := by rw [chgE, if_neg (by omega), if_pos ho]
  have hN : chgN t x = rmN x.z t.ns x.p := by rw [chgN, if_neg (by omega), if_neg (by omega), if_pos ho]
  have hS : chgS t x = t.ss := by rw [chgS, if_neg (by omega), if_neg (by omega)]
  have hV : chgV t x = [⟨2, x.p⟩, ⟨4, dirOf x.p⟩] := by rw [chgV, if_neg (by omega), if_neg (by omega), if_pos ho]
  rcases nwhere x.p t.ns g.nod.asc with ⟨A, n, B, T⟩ | ⟨A, B, G⟩
  · have hn : n ∈ t.ns := by rw [T.eq]; simp
    by_cases hk : n.n = 0
    · have hd0 : delE t x = 0 := by rw [delE, T.look]; simp only; rw [if_neg (by omega)]
      have gn : GoodN x.z t.ns t.ss := g.nod.mono (by omega)
      obtain ⟨u, hu1, hu2, hu3, hu4, hu5⟩ := up_look gn hn (by rw [T.nm]; exact hp2)
      rw [T.nm] at hu1 hu3 hu4
      obtain ⟨A', B', T'⟩ := there_drop gn.asc T hu2 hu3 hu4
      have ku := gn.ok u hu2
      have hkc := g.cap u hu2
      have hkn := ku.kids
      have hkl : kidsN t.ns u.p ≤ t.ns.length := List.countP_le_length
      by_cases hf : u.k = 2147483647
      · refine (remove_full F b x.z vn vs ve t.ns A B A' B' n u t.ss [] x.p w h hF T T' few hk hf (by omega) (by simp)).mono fun e w' q => Chg.no q ?_ (by decide)
        exact chgF_full (by rw [hE, hd0]) (by rw [hN]; exact rm_full hu2 hu3 hu4 hf [] (by simp))
      · refine (remove_ok F b x.z vn vs ve t.ns A B A' B' n u t.ss [] x.p w h hF T T' few hk ⟨ku.k0, by omega⟩ (by omega) (by omega) (by omega) (by simp)).mono ?_
        rintro e w' ⟨rfl, vn', ve', g', t'⟩
        have hc : chgF t x = 0 := chgF_ok (by rw [hE, hd0]) (by rw [hN, fullN_false]; exact rm_cap gn.asc hu2 hu3 (by omega) g.cap)
        exact ⟨by rw [hc], t', fun _ => ⟨vn', vs, ve', by rw [hN, hS, hV]; exact g'⟩⟩
    · refine (remove_kids F b x.z vn vs ve t.ns A B n t.ss [] x.p w h T few hk).mono fun e w' q => Chg.no q ?_ (by decide)
      exact chgF_err (by rw [hE, delE, T.look]; simp only; rw [if_pos hk]) (by decide)
  · refine (remove_gap F b x.z vn vs ve t.ns A B t.ss [] x.p w h G few).mono fun e w' q => Chg.no q ?_ (by decide)
    exact chgF_err (by rw [hE, delE, G.look]) (by decide)

theorem set_any (F : Nat → Prop) (b : Nat) (t : Tr) (vn vs ve : Value) (x : WTxn) (w : World) (h : Grow w F b x.z vn vs ve t.ns t.ss []) (hF : ∀ k, w.heap.size ≤ k → F k) (ha : admE t x = 0) (ho : x.o = 5) :
    Calls Tryz.prog 63 #[.pointer (some ⟨b, 0, none⟩), txnV x] w (Chg F b t x w) := by
  obtain ⟨g, hg, hz, h1, h2⟩ := adm_zero ha
  have f := fine_of hg
  have hpl := goodB_le (f.path5 ho)
  have hdl := f.d
  have few := g.nod.few
  have hE : chgE t x = setE t x := by rw [chgE, if_neg (by omega), if_neg (by omega), if_pos ho]
  have hN : chgN t x = setAt x.p x.d x.v x.z t.ns := by rw [chgN, if_neg (by omega), if_neg (by omega), if_neg (by omega), if_pos ho]
  have hS : chgS t x = t.ss := by rw [chgS, if_neg (by omega), if_neg (by omega)]
  have hV : chgV t x = [⟨3, x.p⟩] := by rw [chgV, if_neg (by omega), if_neg (by omega), if_neg (by omega), if_pos ho]
  rcases nwhere x.p t.ns g.nod.asc with ⟨A, n, B, T⟩ | ⟨A, B, G⟩
  · have hn : n ∈ t.ns := by rw [T.eq]; simp
    have kn := g.nod.ok n hn
    by_cases hv : x.v = n.v + 1
    · refine (set_ok F b x.z vn vs ve t.ns A B n t.ss [] x w h hF T few ⟨kn.v0, kn.v1⟩ (by omega) (by omega) (by simp) hv).mono ?_
      rintro e w' ⟨rfl, ve', g', t'⟩
      have hc : chgF t x = 0 := chgF_ok (by rw [hE, setE, T.look]; simp only; rw [if_neg (by omega)]) (by
        rw [hN, fullN_false]
        intro m hm
        rw [setAt] at hm
        obtain ⟨m', hm', rfl⟩ := List.mem_map.1 hm
        split
        · exact g.cap m' hm'
        · exact g.cap m' hm')
      exact ⟨by rw [hc], t', fun _ => ⟨vn, vs, ve', by rw [hN, hS, hV, T.put]; exact g'⟩⟩
    · refine (set_ver F b x.z vn vs ve t.ns A B n t.ss [] x w h hF T few ⟨kn.v0, kn.v1⟩ (by omega) (by omega) (by simp) hv).mono fun e w' q => Chg.no q ?_ (by decide)
      exact chgF_err (by rw [hE, setE, T.look]; simp only; rw [if_pos hv]) (by decide)
  · refine (set_gap F b x.z vn vs ve t.ns A B t.ss [] x w h G few).mono fun e w' q => Chg.no q ?_ (by decide)
    exact chgF_err (by rw [hE, setE, G.look]) (by decide)

theorem clo_any (F : Nat → Prop) (b : Nat) (t : Tr) (vn vs ve : Value) (x : WTxn) (w : World) (h : Grow w F b x.z vn vs ve t.ns t.ss []) (hF : ∀ k, w.heap.size ≤ k → F k) (ha : admE t x = 0) (ho : x.o = 2) :
    Calls Tryz.prog 60 #[.pointer (some ⟨b, 0, none⟩), .int .i64 x.s] w (Chg F b t x w) := by
  obtain ⟨g, hg, hz, h1, h2⟩ := adm_zero ha
  have f := fine_of hg
  have gn : GoodN x.z t.ns t.ss := g.nod.mono (by omega)
  have hE : chgE t x = 0 := by rw [chgE, if_neg (by omega), if_neg (by omega), if_neg (by omega)]
  have hN : chgN t x = rmAll x.z t.ns (ownedP t.ns x.s) := by rw [chgN, if_pos ho]
  have hS : chgS t x = dropS t.ss x.s := by rw [chgS, if_neg (by omega), if_pos ho]
  have hV : chgV t x = rmEv (ownedP t.ns x.s) := by rw [chgV, if_pos ho]
  have hm := h2 (by omega)
  rcases swhere x.s t.ss g.ses.1 with ⟨A, B, T⟩ | ⟨A, B, G⟩
  · refine (close_any F b x.z vn vs ve t.ns t.ss A B t.ss x.s w h hF T (sasc_len g.ses) ⟨gn, rest_owned gn (by have := f.s; omega), g.cap⟩).mono ?_
    rintro e w' (⟨hf, rfl, t'⟩ | ⟨hf, rfl, vn', vs', ve', g', t'⟩)
    · exact Chg.no ⟨rfl, t'⟩ (chgF_full hE (by rw [hN]; exact hf)) (by decide)
    · have hc : chgF t x = 0 := chgF_ok hE (by rw [hN]; exact hf)
      exact ⟨by rw [hc], t', fun _ => ⟨vn', vs', ve', by rw [hN, hS, hV, T.drop]; exact g'⟩⟩
  · exact absurd hm G.not

theorem ope_any (F : Nat → Prop) (b : Nat) (t : Tr) (vn vs : Value) (x : WTxn) (w : World) (h : Grow w F b x.z vn vs (.slice none 0 0) t.ns t.ss []) (hF : ∀ k, w.heap.size ≤ k → F k) (ha : admE t x = 0) (ho : x.o = 1) :
    Calls Tryz.prog 59 #[.pointer (some ⟨b, 0, none⟩), .int .i64 x.s] w fun e w' => e = .returned (.tuple #[]) ∧ Chg F b t x w (.returned (.int .i64 0)) w' := by
  obtain ⟨g, hg, hz, h1, h2⟩ := adm_zero ha
  have f := fine_of hg
  have hE : chgE t x = 0 := by rw [chgE, if_neg (by omega), if_neg (by omega), if_neg (by omega)]
  have hN : chgN t x = t.ns := by rw [chgN, if_neg (by omega), if_neg (by omega), if_neg (by omega), if_neg (by omega)]
  have hS : chgS t x = insS t.ss x.s := by rw [chgS, if_pos ho]
  have hV : chgV t x = [] := by rw [chgV, if_neg (by omega), if_neg (by omega), if_neg (by omega), if_neg (by omega)]
  have hm := h1 ho
  rcases swhere x.s t.ss g.ses.1 with ⟨A, B, T⟩ | ⟨A, B, G⟩
  · exact absurd T.mem hm
  · have hl : t.ss.length ≤ 2147483646 := by
      have h3 := sasc_len (sasc_ins g.ses f.s hm)
      rw [G.ins] at h3
      rw [G.eq]
      simp at h3 ⊢; omega
    refine (gopen_ok F b x.z vn vs _ t.ns t.ss A B [] x.s w h hF G hl).mono ?_
    rintro e w' ⟨rfl, vs', g', t'⟩
    have hc : chgF t x = 0 := chgF_ok hE (by rw [hN, fullN_false]; exact g.cap)
    exact ⟨rfl, by rw [hc], t', fun _ => ⟨vn, vs', _, by rw [hN, hS, hV, G.ins]; exact g'⟩⟩

end Go.Proofs.YtalnmhgedfgooaaGreatDoor

namespace Go.Proofs.YtalnmhgedfgooaaGreatDoor
open Go.RowKit

theorem Chg.boxed {F : Nat → Prop} {b : Nat} {t : Tr} {x : WTxn} {w w' : World} {o : Obj} {e : Ending} (h : Chg F b t x (w.alloc o) e w') : Chg F b t x w e w' :=
  ⟨h.1, (Touch.of_below (allocB w o)).trans h.2.1, h.2.2⟩

set_option maxRecDepth 20000 in
set_option maxHeartbeats 2000000 in
theorem change_ope (F : Nat → Prop) (b : Nat) (t : Tr) (vn vs : Value) (x : WTxn) (w : World) (h : Grow w F b x.z vn vs (.slice none 0 0) t.ns t.ss []) (hF : ∀ k, w.heap.size ≤ k → F k) (ha : admE t x = 0) (ho : x.o = 1) :
    Calls Tryz.prog 35 #[.pointer (some ⟨b, 0, none⟩), txnV x] w (Chg F b t x w) := by
  have C := ope_any F b t vn vs x (w.alloc (.cells #[.int .i64 x.z, .int .i64 x.o, .int .i64 x.s, .string ⟨x.p.toArray⟩, .string ⟨x.d.toArray⟩, .int .i64 x.v, .int .i64 x.w] 29)) (h.next (allocB _ _)) (fun k hk => hF k (by simp at hk; omega)) ha ho
  clear h hF ha
  have HO := hide ho
  obtain ⟨xz, xo, xs, xp, xd, xv, xw⟩ := x
  unfold txnV
  simp only at C ho ⊢
  subst ho
  have HC := hide C
  clear C
  go_enter Tryz.func35, Tryz.ntmps35
  go_wp2_with fail
  refine (unhide HC).mono ?_
  rintro e w1 ⟨rfl, hc⟩
  have HQ := hide hc.boxed
  clear hc HC
  go_wp2_with fail
  go_ret
  exact unhide HQ

set_option maxRecDepth 20000 in
set_option maxHeartbeats 2000000 in
theorem change_clo (F : Nat → Prop) (b : Nat) (t : Tr) (vn vs : Value) (x : WTxn) (w : World) (h : Grow w F b x.z vn vs (.slice none 0 0) t.ns t.ss []) (hF : ∀ k, w.heap.size ≤ k → F k) (ha : admE t x = 0) (ho : x.o = 2) :
    Calls Tryz.prog 35 #[.pointer (some ⟨b, 0, none⟩), txnV x] w (Chg F b t x w) := by
  have C := clo_any F b t vn vs _ x (w.alloc (.cells #[.int .i64 x.z, .int .i64 x.o, .int .i64 x.s, .string ⟨x.p.toArray⟩, .string ⟨x.d.toArray⟩, .int .i64 x.v, .int .i64 x.w] 29)) (h.next (allocB _ _)) (fun k hk => hF k (by simp at hk; omega)) ha ho
  clear h hF ha
  have HO := hide ho
  obtain ⟨xz, xo, xs, xp, xd, xv, xw⟩ := x
  unfold txnV
  simp only at C ho ⊢
  subst ho
  have HC := hide C
  clear C
  go_enter Tryz.func35, Tryz.ntmps35
  go_wp2_with fail
  refine (unhide HC).mono ?_
  rintro e w1 hc
  obtain ⟨rfl, hc'⟩ := hc.boxed
  have HQ := hide hc'
  clear hc hc' HC
  go_wp2_with fail
  go_ret
  exact ⟨rfl, unhide HQ⟩

set_option maxRecDepth 20000 in
set_option maxHeartbeats 2000000 in
theorem change_cre (F : Nat → Prop) (b : Nat) (t : Tr) (vn vs : Value) (x : WTxn) (w : World) (h : Grow w F b x.z vn vs (.slice none 0 0) t.ns t.ss []) (hF : ∀ k, w.heap.size ≤ k → F k) (ha : admE t x = 0) (ho : x.o = 3) :
    Calls Tryz.prog 35 #[.pointer (some ⟨b, 0, none⟩), txnV x] w (Chg F b t x w) := by
  have C := cre_any F b t vn vs _ x (w.alloc (.cells #[.int .i64 x.z, .int .i64 x.o, .int .i64 x.s, .string ⟨x.p.toArray⟩, .string ⟨x.d.toArray⟩, .int .i64 x.v, .int .i64 x.w] 29)) (h.next (allocB _ _)) (fun k hk => hF k (by simp at hk; omega)) ha ho
  clear h hF ha
  have HO := hide ho
  obtain ⟨xz, xo, xs, xp, xd, xv, xw⟩ := x
  unfold txnV at C ⊢
  simp only at C ho ⊢
  subst ho
  have HC := hide C
  clear C
  go_enter Tryz.func35, Tryz.ntmps35
  go_wp2_with fail
  refine (unhide HC).mono ?_
  rintro e w1 hc
  obtain ⟨rfl, hc'⟩ := hc.boxed
  have HQ := hide hc'
  clear hc hc' HC
  go_wp2_with fail
  go_ret
  exact ⟨rfl, unhide HQ⟩

set_option maxRecDepth 20000 in
set_option maxHeartbeats 2000000 in
theorem change_del (F : Nat → Prop) (b : Nat) (t : Tr) (vn vs : Value) (x : WTxn) (w : World) (h : Grow w F b x.z vn vs (.slice none 0 0) t.ns t.ss []) (hF : ∀ k, w.heap.size ≤ k → F k) (ha : admE t x = 0) (ho : x.o = 4) :
    Calls Tryz.prog 35 #[.pointer (some ⟨b, 0, none⟩), txnV x] w (Chg F b t x w) := by
  have C := del_any F b t vn vs _ x (w.alloc (.cells #[.int .i64 x.z, .int .i64 x.o, .int .i64 x.s, .string ⟨x.p.toArray⟩, .string ⟨x.d.toArray⟩, .int .i64 x.v, .int .i64 x.w] 29)) (h.next (allocB _ _)) (fun k hk => hF k (by simp at hk; omega)) ha ho
  clear h hF ha
  have HO := hide ho
  obtain ⟨xz, xo, xs, xp, xd, xv, xw⟩ := x
  unfold txnV
  simp only at C ho ⊢
  subst ho
  have HC := hide C
  clear C
  go_enter Tryz.func35, Tryz.ntmps35
  go_wp2_with fail
  refine (unhide HC).mono ?_
  rintro e w1 hc
  obtain ⟨rfl, hc'⟩ := hc.boxed
  have HQ := hide hc'
  clear hc hc' HC
  go_wp2_with fail
  go_ret
  exact ⟨rfl, unhide HQ⟩

set_option maxRecDepth 20000 in
set_option maxHeartbeats 2000000 in
theorem change_set (F : Nat → Prop) (b : Nat) (t : Tr) (vn vs : Value) (x : WTxn) (w : World) (h : Grow w F b x.z vn vs (.slice none 0 0) t.ns t.ss []) (hF : ∀ k, w.heap.size ≤ k → F k) (ha : admE t x = 0) (ho : x.o = 5) :
    Calls Tryz.prog 35 #[.pointer (some ⟨b, 0, none⟩), txnV x] w (Chg F b t x w) := by
  have C := set_any F b t vn vs _ x (w.alloc (.cells #[.int .i64 x.z, .int .i64 x.o, .int .i64 x.s, .string ⟨x.p.toArray⟩, .string ⟨x.d.toArray⟩, .int .i64 x.v, .int .i64 x.w] 29)) (h.next (allocB _ _)) (fun k hk => hF k (by simp at hk; omega)) ha ho
  clear h hF ha
  have HO := hide ho
  obtain ⟨xz, xo, xs, xp, xd, xv, xw⟩ := x
  unfold txnV at C ⊢
  simp only at C ho ⊢
  subst ho
  have HC := hide C
  clear C
  go_enter Tryz.func35, Tryz.ntmps35
  go_wp2_with fail
  refine (unhide HC).mono ?_
  rintro e w1 hc
  obtain ⟨rfl, hc'⟩ := hc.boxed
  have HQ := hide hc'
  clear hc hc' HC
  go_wp2_with fail
  go_ret
  exact ⟨rfl, unhide HQ⟩

theorem change_any (F : Nat → Prop) (b : Nat) (t : Tr) (vn vs : Value) (x : WTxn) (w : World) (h : Grow w F b x.z vn vs (.slice none 0 0) t.ns t.ss []) (hF : ∀ k, w.heap.size ≤ k → F k) (ha : admE t x = 0) :
    Calls Tryz.prog 35 #[.pointer (some ⟨b, 0, none⟩), txnV x] w (Chg F b t x w) := by
  have f := (fine_of (adm_zero ha).2.1).op
  by_cases h1 : x.o = 1
  · exact change_ope F b t vn vs x w h hF ha h1
  · by_cases h2 : x.o = 2
    · exact change_clo F b t vn vs x w h hF ha h2
    · by_cases h3 : x.o = 3
      · exact change_cre F b t vn vs x w h hF ha h3
      · by_cases h4 : x.o = 4
        · exact change_del F b t vn vs x w h hF ha h4
        · exact change_set F b t vn vs x w h hF ha (by omega)

end Go.Proofs.YtalnmhgedfgooaaGreatDoor

namespace Go.Proofs.YtalnmhgedfgooaaGreatDoor
open Go.RowKit

theorem OwnS.raise {α : Type} [Lay α] {W : World} {B : Nat} {v : Value} {xs : List α} (h : OwnS W 0 v xs) (hb : ∀ k, v.ownBlock = some k → B ≤ k) : OwnS W B v xs := by
  rcases h with h | ⟨g, cap, rfl, _, h⟩
  · exact .inl h
  · exact .inr ⟨g, cap, rfl, hb g rfl, h⟩
/-- what Apply gives -/
def GivesA (w : World) (t : Tr) (x : WTxn) (e : Ending) (w' : World) : Prop :=
  ∃ vn vs ve, e = .returned (.tuple #[.agg #[.int .i64 (appT t x).z, vn, vs], ve, .int .i64 (appE t x)]) ∧ OwnS w' w.heap.size vn (appT t x).ns ∧ OwnS w' w.heap.size vs (appT t x).ss ∧ OwnS w' w.heap.size ve (appV t x) ∧ Below w.heap.size w w'
theorem gives_no {w w' : World} {t : Tr} {x : WTxn} {E : Int} {e : Ending} (hE : appE t x = E) (h0 : E ≠ 0) (he : e = .returned (.tuple #[.agg #[.int .i64 0, .slice none 0 0, .slice none 0 0], .slice none 0 0, .int .i64 E])) (hb : Below w.heap.size w w') : GivesA w t x e w' := by
  have h1 : appT t x = tr0 := by rw [appT, if_neg (by omega)]
  have h2 : appV t x = [] := by rw [appV, if_neg (by omega)]
  refine ⟨.slice none 0 0, .slice none 0 0, .slice none 0 0, ?_, ?_, ?_, ?_, hb⟩
  · rw [hE, h1]; exact he
  · rw [h1]; exact .inl ⟨rfl, rfl⟩
  · rw [h1]; exact .inl ⟨rfl, rfl⟩
  · rw [h2]; exact .inl ⟨rfl, rfl⟩

/-- the boxes of Apply -/
structure AppB (W : World) (q : Nat) (z : Int) (vn vs : Value) (x : WTxn) : Prop where
  t : W.heap[q]? = some (.cells #[.int .i64 z, vn, vs] 25 (0, 0))
  x : TAt W (q + 1) x
  r : W.heap[q + 2]? = some (.cells #[.int .i64 0, .slice none 0 0, .slice none 0 0] 25 (0, 0))
theorem AppB.new (w : World) (z : Int) (vn vs : Value) (x : WTxn) : AppB (((w.alloc (.cells #[.int .i64 z, vn, vs] 25)).alloc (.cells #[.int .i64 x.z, .int .i64 x.o, .int .i64 x.s, .string ⟨x.p.toArray⟩, .string ⟨x.d.toArray⟩, .int .i64 x.v, .int .i64 x.w] 29)).alloc (.cells #[.int .i64 0, .slice none 0 0, .slice none 0 0] 25)) w.heap.size z vn vs x := by
  refine ⟨?_, ?_, ?_⟩
  · rw [(allocB _ _).block _ (by simp; omega), (allocB _ _).block _ (by simp)]
    exact heap_alloc_new w _
  · have h := (TAt.new (w.alloc (.cells #[.int .i64 z, vn, vs] 25)) x).next (allocB _ (.cells #[.int .i64 0, .slice none 0 0, .slice none 0 0] 25))
    simpa using h
  · have h := heap_alloc_new ((w.alloc (.cells #[.int .i64 z, vn, vs] 25)).alloc (.cells #[.int .i64 x.z, .int .i64 x.o, .int .i64 x.s, .string ⟨x.p.toArray⟩, .string ⟨x.d.toArray⟩, .int .i64 x.v, .int .i64 x.w] 29)) (.cells #[.int .i64 0, .slice none 0 0, .slice none 0 0] 25)
    rw [show ((w.alloc (.cells #[.int .i64 z, vn, vs] 25)).alloc (.cells #[.int .i64 x.z, .int .i64 x.o, .int .i64 x.s, .string ⟨x.p.toArray⟩, .string ⟨x.d.toArray⟩, .int .i64 x.v, .int .i64 x.w] 29)).heap.size = w.heap.size + 2 by simp] at h
    exact h
theorem AppB.lt {W : World} {q : Nat} {z : Int} {vn vs : Value} {x : WTxn} (h : AppB W q z vn vs x) : q + 2 < W.heap.size := (Array.getElem?_eq_some_iff.1 h.r).1
theorem AppB.touch {W V : World} {q : Nat} {z : Int} {vn vs : Value} {x : WTxn} {F : Nat → Prop} (h : AppB W q z vn vs x) (ht : Touch F W V) (hf : ∀ k, F k → q + 3 ≤ k) : AppB V q z vn vs x := by
  have := h.lt
  have n0 : ∀ k, k < q + 3 → ¬ F k := fun k hk hF => by have := hf k hF; omega
  exact ⟨(ht.block _ (by omega) (n0 _ (by omega))).trans h.t, (ht.block _ (by omega) (n0 _ (by omega))).trans h.x, (ht.block _ (by omega) (n0 _ (by omega))).trans h.r⟩
theorem AppB.next {W V : World} {q : Nat} {z : Int} {vn vs : Value} {x : WTxn} (h : AppB W q z vn vs x) (hb : Below W.heap.size W V) : AppB V q z vn vs x := h.touch (F := fun _ => False) (Touch.of_below hb) (fun _ hF => hF.elim)
theorem AppB.cells {W : World} {q : Nat} {z : Int} {vn vs : Value} {x : WTxn} (h : AppB W q z vn vs x) : W.cell? ⟨q, 0, none⟩ = some (.int .i64 z) ∧ W.cell? ⟨q, 1, none⟩ = some vn ∧ W.cell? ⟨q, 2, none⟩ = some vs ∧ W.cell? ⟨q + 2, 0, none⟩ = some (.int .i64 0) ∧ W.cell? ⟨q + 2, 1, none⟩ = some (.slice none 0 0) ∧ W.cell? ⟨q + 2, 2, none⟩ = some (.slice none 0 0) ∧ W.frozen? ⟨q + 2, 0, none⟩ = false ∧ W.frozen? ⟨q + 2, 1, none⟩ = false ∧ W.frozen? ⟨q + 2, 2, none⟩ = false := by
  have h1 := h.t
  have h2 := h.r
  refine ⟨?_, ?_, ?_, ?_, ?_, ?_, ?_, ?_, ?_⟩ <;> simp [World.cell?, World.frozen?, h1, h2]

set_option maxRecDepth 20000 in
set_option maxHeartbeats 2000000 in
theorem apply_adm (t : Tr) (vn vs : Value) (x : WTxn) (w : World) (hn : SeqV w vn t.ns) (hs : SeqV w vs t.ss) (hw : WfT t) (hd : x.d.length ≤ 140737488355328) (ha : admE t x ≠ 0) :
    Calls Tryz.prog 14 #[.agg #[.int .i64 t.z, vn, vs], txnV x] w (GivesA w t x) := by
  have CA := hide (fun W (hW : Below w.heap.size w W) => admit_any t vn vs x W (hn.next hW) (hs.next hW) hw hd)
  have FIN := hide (fun w' e h hb => gives_no (w := w) (w' := w') (e := e) (appE_adm ha) ha h hb)
  have hab : (admE t x != 0) = true := by simpa using ha
  obtain ⟨na, nc, rfl⟩ := seq_slice hn
  obtain ⟨sa, sc, rfl⟩ := seq_slice hs
  clear hn hs hw ha
  generalize admE t x = E at hab CA FIN
  generalize hQ : GivesA w t x = Q at FIN ⊢
  clear hQ
  obtain ⟨xz, xo, xs, xp, xd, xv, xw⟩ := x
  unfold txnV at *
  simp only at *
  have KB : ∀ W, Below (((w.alloc (.cells #[.int .i64 t.z, .slice na t.ns.length nc, .slice sa t.ss.length sc] 25)).alloc (.cells #[.int .i64 xz, .int .i64 xo, .int .i64 xs, .string ⟨xp.toArray⟩, .string ⟨xd.toArray⟩, .int .i64 xv, .int .i64 xw] 29)).alloc (.cells #[.int .i64 0, .slice none 0 0, .slice none 0 0] 25)).heap.size (((w.alloc (.cells #[.int .i64 t.z, .slice na t.ns.length nc, .slice sa t.ss.length sc] 25)).alloc (.cells #[.int .i64 xz, .int .i64 xo, .int .i64 xs, .string ⟨xp.toArray⟩, .string ⟨xd.toArray⟩, .int .i64 xv, .int .i64 xw] 29)).alloc (.cells #[.int .i64 0, .slice none 0 0, .slice none 0 0] 25)) W → AppB W w.heap.size t.z (.slice na t.ns.length nc) (.slice sa t.ss.length sc) ⟨xz, xo, xs, xp, xd, xv, xw⟩ ∧ Below w.heap.size w W := fun W h => ⟨(AppB.new w _ _ _ ⟨xz, xo, xs, xp, xd, xv, xw⟩).next h, nbox_then (nbox_then (nbox_then h))⟩
  have HKB := hide KB
  clear KB
  go_enter Tryz.func14, Tryz.ntmps14
  go_wp2_with fail
  refine (unhide CA _ (nnext (nnext (allocB _ _) (allocB _ _)) (allocB _ _))).mono ?_
  rintro e w1 ⟨rfl, hb1⟩
  obtain ⟨b1, B1⟩ := unhide HKB w1 hb1
  obtain ⟨k0, k1, k2, k3, k4, k5, k6, k7, k8⟩ := b1.cells
  have j0 := b1.x.c0
  have j1 := b1.x.c1
  have j2 := b1.x.c2
  have j3 := b1.x.c3
  have j4 := b1.x.c4
  have j5 := b1.x.c5
  have j6 := b1.x.c6
  have HB1 := hide B1
  have HX1 := hide b1
  clear hb1 b1 B1
  go_wp2_with fail
  exact bodyPost_ret (v := .tuple #[.agg #[.int .i64 0, .slice none 0 0, .slice none 0 0], .slice none 0 0, .int .i64 E]) (by simp [results, Tryz.results14, go_sem, k3, k4, k5]) rfl (unhide FIN _ _ rfl ((((unhide HB1).setCell (by show w.heap.size ≤ w.heap.size + 1 + 1; omega) _).setCell (by show w.heap.size ≤ w.heap.size + 1 + 1; omega) _).setCell (by show w.heap.size ≤ w.heap.size + 1 + 1; omega) _))

/-- g.Tree and g.events, stored -/
theorem gives_yes {w W : World} {t : Tr} {x : WTxn} {B b : Nat} {vn vs ve : Value} {v0 v1 v2 : Value} (ha : appE t x = 0) (hg : Grow W (fun k => B ≤ k) b x.z vn vs ve (chgN t x) (chgS t x) (chgV t x)) (hq : w.heap.size + 3 ≤ B) (hb : Below w.heap.size w W) :
    GivesA w t x (.returned (.tuple #[.agg #[.int .i64 x.z, vn, vs], ve, .int .i64 0])) (((W.setCell ⟨w.heap.size + 2, 0, none⟩ v0).setCell ⟨w.heap.size + 2, 1, none⟩ v1).setCell ⟨w.heap.size + 2, 2, none⟩ v2).drew := by
  have h1 : appT t x = ⟨x.z, chgN t x, chgS t x⟩ := by rw [appT, if_pos ha]
  have h2 : appV t x = chgV t x := by rw [appV, if_pos ha]
  have nn : ∀ k, vn.ownBlock = some k → w.heap.size + 3 ≤ k := fun k hk => Nat.le_trans hq (hg.fn k hk).1
  have ns : ∀ k, vs.ownBlock = some k → w.heap.size + 3 ≤ k := fun k hk => Nat.le_trans hq (hg.fs k hk).1
  have ne : ∀ k, ve.ownBlock = some k → w.heap.size + 3 ≤ k := fun k hk => Nat.le_trans hq (hg.fe k hk).1
  have no : ∀ {v : Value}, (∀ k, v.ownBlock = some k → w.heap.size + 3 ≤ k) → v.ownBlock ≠ some (w.heap.size + 2) := fun h e => by have := h _ e; omega
  refine ⟨vn, vs, ve, by rw [h1, ha], ?_, ?_, ?_, ?_⟩
  · rw [h1]
    exact (((hg.n.raise (fun k hk => by have := nn k hk; omega)).other (no nn) _).other (no nn) _).other (no nn) _ |>.next (Below.refl _ _).drew
  · rw [h1]
    exact (((hg.s.raise (fun k hk => by have := ns k hk; omega)).other (no ns) _).other (no ns) _).other (no ns) _ |>.next (Below.refl _ _).drew
  · rw [h2]
    exact (((hg.e.raise (fun k hk => by have := ne k hk; omega)).other (no ne) _).other (no ne) _).other (no ne) _ |>.next (Below.refl _ _).drew
  · exact (((hb.setCell (by simp) _).setCell (by simp) _).setCell (by simp) _).drew

set_option maxRecDepth 20000 in
set_option maxHeartbeats 4000000 in
theorem apply_chg (t : Tr) (vn vs : Value) (x : WTxn) (w : World) (hn : SeqV w vn t.ns) (hs : SeqV w vs t.ss) (hw : WfT t) (hd : x.d.length ≤ 140737488355328) (ha : admE t x = 0) :
    Calls Tryz.prog 14 #[.agg #[.int .i64 t.z, vn, vs], txnV x] w (GivesA w t x) := by
  have CA := hide (fun W (hW : Below w.heap.size w W) => admit_any t vn vs x W (hn.next hW) (hs.next hW) hw hd)
  rw [ha] at CA
  obtain ⟨g, _⟩ := adm_zero ha
  have few := g.nod.few
  have sl := sasc_len g.ses
  have CB := hide (fun W (hW : Below w.heap.size w W) => begun_any t vn vs x.z W (hn.next hW) (hs.next hW) few sl hw.slim)
  have CC := hide (fun (F : Nat → Prop) b vn' vs' W (hG : Grow W F b x.z vn' vs' (.slice none 0 0) t.ns t.ss []) hF => change_any F b t vn' vs' x W hG hF ha)
  have hap := appE_chg ha
  have FNO := hide (fun w' e (h0 : chgF t x ≠ 0) h hb => gives_no (w := w) (w' := w') (e := e) hap h0 h hb)
  have FYE := hide (fun (W : World) (B b : Nat) (vn vs ve v0 v1 v2 : Value) (h0 : chgF t x = 0) hg hq hb => gives_yes (w := w) (W := W) (t := t) (x := x) (B := B) (b := b) (vn := vn) (vs := vs) (ve := ve) (v0 := v0) (v1 := v1) (v2 := v2) (hap.trans h0) hg hq hb)
  obtain ⟨na, nc, rfl⟩ := seq_slice hn
  obtain ⟨sa, sc, rfl⟩ := seq_slice hs
  clear hn hs hw ha hap g few sl
  generalize hQ : GivesA w t x = Q at FNO FYE ⊢
  clear hQ
  obtain ⟨E, hE⟩ : ∃ E, chgF t x = E := ⟨_, rfl⟩
  unfold Chg at CC
  rw [hE] at CC FNO FYE
  clear hE
  obtain ⟨xz, xo, xs, xp, xd, xv, xw⟩ := x
  unfold txnV at *
  simp only at *
  have KB : ∀ W, Below (((w.alloc (.cells #[.int .i64 t.z, .slice na t.ns.length nc, .slice sa t.ss.length sc] 25)).alloc (.cells #[.int .i64 xz, .int .i64 xo, .int .i64 xs, .string ⟨xp.toArray⟩, .string ⟨xd.toArray⟩, .int .i64 xv, .int .i64 xw] 29)).alloc (.cells #[.int .i64 0, .slice none 0 0, .slice none 0 0] 25)).heap.size (((w.alloc (.cells #[.int .i64 t.z, .slice na t.ns.length nc, .slice sa t.ss.length sc] 25)).alloc (.cells #[.int .i64 xz, .int .i64 xo, .int .i64 xs, .string ⟨xp.toArray⟩, .string ⟨xd.toArray⟩, .int .i64 xv, .int .i64 xw] 29)).alloc (.cells #[.int .i64 0, .slice none 0 0, .slice none 0 0] 25)) W → AppB W w.heap.size t.z (.slice na t.ns.length nc) (.slice sa t.ss.length sc) ⟨xz, xo, xs, xp, xd, xv, xw⟩ ∧ Below w.heap.size w W := fun W h => ⟨(AppB.new w _ _ _ ⟨xz, xo, xs, xp, xd, xv, xw⟩).next h, nbox_then (nbox_then (nbox_then h))⟩
  have HKB := hide KB
  clear KB
  go_enter Tryz.func14, Tryz.ntmps14
  go_wp2_with fail
  refine (unhide CA _ (nnext (nnext (allocB _ _) (allocB _ _)) (allocB _ _))).mono ?_
  rintro e w1 ⟨rfl, hb1⟩
  obtain ⟨b1, B1⟩ := unhide HKB w1 hb1
  obtain ⟨k0, k1, k2, k3, k4, k5, k6, k7, k8⟩ := b1.cells
  have j0 := b1.x.c0
  have j1 := b1.x.c1
  have j2 := b1.x.c2
  have j3 := b1.x.c3
  have j4 := b1.x.c4
  have j5 := b1.x.c5
  have j6 := b1.x.c6
  have HB1 := hide B1
  have HX1 := hide b1
  clear hb1 b1 B1
  go_wp2_with fail
  refine (unhide CB _ (unhide HB1)).mono ?_
  rintro e w2 ⟨b, vn2, vs2, rfl, g2, hb2⟩
  have b2 := (unhide HX1).next hb2
  obtain ⟨m0, m1, m2, m3, m4, m5, m6, m7, m8⟩ := b2.cells
  have i0 := b2.x.c0
  have i1 := b2.x.c1
  have i2 := b2.x.c2
  have i3 := b2.x.c3
  have i4 := b2.x.c4
  have i5 := b2.x.c5
  have i6 := b2.x.c6
  have HB2 := hide (nnext (unhide HB1) hb2)
  have HX2 := hide b2
  have HG2 := hide g2
  have hsz2 := hb2.size
  clear hb2 g2 b2 k0 k1 k2 k3 k4 k5 k6 k7 k8 j0 j1 j2 j3 j4 j5 j6 CB CA
  go_wp2_with fail
  refine (unhide CC _ _ _ _ _ (unhide HG2) (fun k hk => Nat.le_trans hsz2 hk)).mono ?_
  rintro e w3 ⟨rfl, t3, g3⟩
  have q1 := (unhide HX1).lt
  have b3 := (unhide HX2).touch t3 (fun k hk => by omega)
  obtain ⟨n0, n1, n2, n3, n4, n5, n6, n7, n8⟩ := b3.cells
  have B3 : Below w.heap.size w w3 := (unhide HB2).trans (t3.below (by omega) (fun k hk => by omega))
  have HB3 := hide B3
  clear CC b3 B3 t3 m0 m1 m2 m3 m4 m5 m6 m7 m8 i0 i1 i2 i3 i4 i5 i6
  by_cases h0 : E = 0
  · obtain ⟨vn3, vs3, ve3, g3⟩ := g3 h0
    have d0 := g3.c0
    have d1 := g3.c1
    have d2 := g3.c2
    have d3 := g3.c3
    obtain ⟨na3, nc3, hn3, _⟩ := g3.n.slice
    obtain ⟨sa3, sc3, hs3, _⟩ := g3.s.slice
    obtain ⟨ea3, ec3, he3, _⟩ := g3.e.slice
    have HG3 := hide g3
    have hbl := g3.lt
    have hbq : w1.heap.size ≤ b := g3.fb
    have hne : b ≠ w.heap.size + 2 := by omega
    have FY := hide (fun (v0 v1 v2 : Value) => unhide FYE w3 w1.heap.size b vn3 vs3 ve3 v0 v1 v2 h0 (unhide HG3) (by omega) (unhide HB3))
    subst hn3 hs3 he3 h0
    clear g3 FYE FNO HG3
    go_wp2_with fail
    go_region
    go_wp2_with fail
    exact bodyPost_ret (v := .tuple #[.agg #[.int .i64 xz, .slice na3 (chgN t ⟨xz, xo, xs, xp, xd, xv, xw⟩).length nc3, .slice sa3 (chgS t ⟨xz, xo, xs, xp, xd, xv, xw⟩).length sc3], .slice ea3 (chgV t ⟨xz, xo, xs, xp, xd, xv, xw⟩).length ec3, .int .i64 0]) (by simp [results, Tryz.results14, go_sem, n3, n4, n5]) rfl (unhide FY _ _ _)
  · have h0b : (E != 0) = true := by simpa using h0
    have FN := hide (fun w' e h hb => unhide FNO w' e h0 h hb)
    clear g3 FYE FNO h0
    go_wp2_with fail
    exact bodyPost_ret (v := .tuple #[.agg #[.int .i64 0, .slice none 0 0, .slice none 0 0], .slice none 0 0, .int .i64 E]) (by simp [results, Tryz.results14, go_sem, n3, n4, n5]) rfl (unhide FN _ _ rfl ((((unhide HB3).setCell (by show w.heap.size ≤ w.heap.size + 1 + 1; omega) _).setCell (by show w.heap.size ≤ w.heap.size + 1 + 1; omega) _).setCell (by show w.heap.size ≤ w.heap.size + 1 + 1; omega) _))

theorem apply_any (t : Tr) (vn vs : Value) (x : WTxn) (w : World) (hn : SeqV w vn t.ns) (hs : SeqV w vs t.ss) (hw : WfT t) (hd : x.d.length ≤ 140737488355328) :
    Calls Tryz.prog 14 #[.agg #[.int .i64 t.z, vn, vs], txnV x] w (GivesA w t x) := by
  by_cases ha : admE t x = 0
  · exact apply_chg t vn vs x w hn hs hw hd ha
  · exact apply_adm t vn vs x w hn hs hw hd ha

end Go.Proofs.YtalnmhgedfgooaaGreatDoor

namespace Go.Proofs.YtalnmhgedfgooaaGreatDoor
open Go.RowKit

/- append(nil, l...) -/
theorem run_copyN (W : World) (ty : TypeId) (v : Value) (xs : List Nd) (hv : SeqV W v xs) (hl : xs.length * 88 ≤ 140737488355328) :
    ∃ v' w', (Builtin.append_ #[22, 22] ty #[.slice none 0 0, v]).run Tryz.prog W = .ok v' w' ∧ OwnS w' W.heap.size v' xs ∧ W.grownBy w' none := by
  obtain ⟨i0, hi0, hz0, hz1, hz2⟩ := ninfo
  have main : ∀ (a : Addr) (cap : Nat), v = .slice (some a) xs.length cap → (∀ j u, (cellsL xs)[j]? = some u → W.cell? (a.add j) = some u) →
      ∃ v' w', (Builtin.append_ #[22, 22] ty #[.slice none 0 0, v]).run Tryz.prog W = .ok v' w' ∧ OwnS w' W.heap.size v' xs ∧ W.grownBy w' none := by
    intro a cap e hc
    subst e
    obtain ⟨v', w', h1, h2, h3, _⟩ := run_append_own (P := Tryz.prog) W W.heap.size 22 ty 46 i0 _ 9 88 Tryz.underlying22 hi0 hz0 hz1 hz2 rfl (by decide) (.slice none 0 0) 0 [] (World.ownsRow_nil _ _ _ _) a xs.length cap (cellsL xs) (cellsL_length xs) hc (cellsL_one xs)
      (by simp only [maxLen]; omega) (by omega) (Nat.le_refl _)
    refine ⟨v', w', h1, OwnS.of_row (by simp only [List.nil_append, Nat.zero_add] at h2; exact h2), h3⟩
  rcases hv with ⟨a, cap, rfl, rfl, _⟩ | ⟨b, off, cap, rfl, _, _, _, _, hr⟩
  · cases a with
    | none =>
      refine ⟨.slice none 0 0, W, ?_, .inl ⟨rfl, rfl⟩, ⟨rfl, rfl, rfl, Nat.le_refl _, fun _ _ _ => rfl⟩⟩
      simp [Builtin.append_, run_underlying Tryz.underlying22, sizeOf, typeInfo, hi0, Builtin.lenOf, Builtin.firstCells]
    | some a => exact main a cap rfl (fun j u h => by simp [cellsL] at h)
  · exact main ⟨b, off, none⟩ cap rfl (fun j u h => by rw [Addr.add_lit]; exact hr j u h)
theorem wpList_copyN {w : World} {ops : Array Oper} {rest : List Oper} {o : Oper} {a : Act} {Q : Exit → Act → World → Prop} (hgd : Region.wanted o (yielded ops a.tmps) = true) (s x : Operand)
    (ho : o.op = .call { callee := .builtin .append, args := #[s, x], argTypes := #[22, 22] })
    (hs : a.eval s = .slice none 0 0) (v : Value) (hx : a.eval x = v) (xs : List Nd) (hv : SeqV w v xs) (hl : xs.length * 88 ≤ 140737488355328)
    (h : ∀ v' w', OwnS w' w.heap.size v' xs → w.grownBy w' none → wpList Tryz.prog ops Q rest (a.put o.dst v') w') : wpList Tryz.prog ops Q (o :: rest) a w := by
  obtain ⟨v', w', hr, h2, h3⟩ := run_copyN w o.type v xs hv hl
  refine wpList_step fun K hK => ?_
  rw [if_pos hgd]
  unfold Oper.wp execOp
  simp only [ho, resolve, invoke, builtin, Sem.run_bind, Sem.run_pure, Result.andThen_ok, List.map_toArray, List.map_cons, List.map_nil, hs, hx, hr]
  exact hK _ _ (h v' w' h2 h3)
theorem step_copyN {w : World} {ops : Array Oper} {o : Oper} {a : Act} {K : Act → World → Prop} {Q : Exit → Act → World → Prop} {E : Prop} (hgd : Region.wanted o (yielded ops a.tmps) = true) (s x : Operand)
    (ho : o.op = .call { callee := .builtin .append, args := #[s, x], argTypes := #[22, 22] })
    (hs : a.eval s = .slice none 0 0) (v : Value) (hx : a.eval x = v) (xs : List Nd) (hv : SeqV w v xs) (hl : xs.length * 88 ≤ 140737488355328)
    (h : ∀ a' c' w', OwnS w' w.heap.size (.slice a' xs.length c') xs → w.grownBy w' none → K (a.put o.dst (.slice a' xs.length c')) w') :
    if Region.wanted o (yielded ops a.tmps) = true then Oper.wp Tryz.prog o a w K Q else E := by
  rw [if_pos hgd]
  obtain ⟨v', w', hr, h2, h3⟩ := run_copyN w o.type v xs hv hl
  obtain ⟨a', c', rfl, _⟩ := h2.slice
  unfold Oper.wp execOp
  simp only [ho, resolve, invoke, builtin, Sem.run_bind, Sem.run_pure, Result.andThen_ok, List.map_toArray, List.map_cons, List.map_nil, hs, hx, hr]
  exact h a' c' w' h2 h3
theorem run_copyI (W : World) (ty : TypeId) (v : Value) (xs : List Int) (hv : SeqV W v xs) (hl : xs.length * 8 ≤ 140737488355328) :
    ∃ v' w', (Builtin.append_ #[23, 23] ty #[.slice none 0 0, v]).run Tryz.prog W = .ok v' w' ∧ OwnS w' W.heap.size v' xs ∧ W.grownBy w' none := by
  obtain ⟨i0, hi0, hz0, hz1, hz2⟩ := iinfo
  have main : ∀ (a : Addr) (cap : Nat), v = .slice (some a) xs.length cap → (∀ j u, (cellsL xs)[j]? = some u → W.cell? (a.add j) = some u) →
      ∃ v' w', (Builtin.append_ #[23, 23] ty #[.slice none 0 0, v]).run Tryz.prog W = .ok v' w' ∧ OwnS w' W.heap.size v' xs ∧ W.grownBy w' none := by
    intro a cap e hc
    subst e
    obtain ⟨v', w', h1, h2, h3, _⟩ := run_append_own (P := Tryz.prog) W W.heap.size 23 ty 3 i0 _ 1 8 Tryz.underlying23 hi0 hz0 hz1 hz2 rfl (by decide) (.slice none 0 0) 0 [] (World.ownsRow_nil _ _ _ _) a xs.length cap (cellsL xs) (cellsL_length xs) hc (cellsL_one xs)
      (by simp only [maxLen]; omega) (by omega) (Nat.le_refl _)
    refine ⟨v', w', h1, OwnS.of_row (by simp only [List.nil_append, Nat.zero_add] at h2; exact h2), h3⟩
  rcases hv with ⟨a, cap, rfl, rfl, _⟩ | ⟨b, off, cap, rfl, _, _, _, _, hr⟩
  · cases a with
    | none =>
      refine ⟨.slice none 0 0, W, ?_, .inl ⟨rfl, rfl⟩, ⟨rfl, rfl, rfl, Nat.le_refl _, fun _ _ _ => rfl⟩⟩
      simp [Builtin.append_, run_underlying Tryz.underlying23, sizeOf, typeInfo, hi0, Builtin.lenOf, Builtin.firstCells]
    | some a => exact main a cap rfl (fun j u h => by simp [cellsL] at h)
  · exact main ⟨b, off, none⟩ cap rfl (fun j u h => by rw [Addr.add_lit]; exact hr j u h)
theorem wpList_copyI {w : World} {ops : Array Oper} {rest : List Oper} {o : Oper} {a : Act} {Q : Exit → Act → World → Prop} (hgd : Region.wanted o (yielded ops a.tmps) = true) (s x : Operand)
    (ho : o.op = .call { callee := .builtin .append, args := #[s, x], argTypes := #[23, 23] })
    (hs : a.eval s = .slice none 0 0) (v : Value) (hx : a.eval x = v) (xs : List Int) (hv : SeqV w v xs) (hl : xs.length * 8 ≤ 140737488355328)
    (h : ∀ v' w', OwnS w' w.heap.size v' xs → w.grownBy w' none → wpList Tryz.prog ops Q rest (a.put o.dst v') w') : wpList Tryz.prog ops Q (o :: rest) a w := by
  obtain ⟨v', w', hr, h2, h3⟩ := run_copyI w o.type v xs hv hl
  refine wpList_step fun K hK => ?_
  rw [if_pos hgd]
  unfold Oper.wp execOp
  simp only [ho, resolve, invoke, builtin, Sem.run_bind, Sem.run_pure, Result.andThen_ok, List.map_toArray, List.map_cons, List.map_nil, hs, hx, hr]
  exact hK _ _ (h v' w' h2 h3)
theorem step_copyI {w : World} {ops : Array Oper} {o : Oper} {a : Act} {K : Act → World → Prop} {Q : Exit → Act → World → Prop} {E : Prop} (hgd : Region.wanted o (yielded ops a.tmps) = true) (s x : Operand)
    (ho : o.op = .call { callee := .builtin .append, args := #[s, x], argTypes := #[23, 23] })
    (hs : a.eval s = .slice none 0 0) (v : Value) (hx : a.eval x = v) (xs : List Int) (hv : SeqV w v xs) (hl : xs.length * 8 ≤ 140737488355328)
    (h : ∀ a' c' w', OwnS w' w.heap.size (.slice a' xs.length c') xs → w.grownBy w' none → K (a.put o.dst (.slice a' xs.length c')) w') :
    if Region.wanted o (yielded ops a.tmps) = true then Oper.wp Tryz.prog o a w K Q else E := by
  rw [if_pos hgd]
  obtain ⟨v', w', hr, h2, h3⟩ := run_copyI w o.type v xs hv hl
  obtain ⟨a', c', rfl, _⟩ := h2.slice
  unfold Oper.wp execOp
  simp only [ho, resolve, invoke, builtin, Sem.run_bind, Sem.run_pure, Result.andThen_ok, List.map_toArray, List.map_cons, List.map_nil, hs, hx, hr]
  exact h a' c' w' h2 h3

/-- a tree's box at q, a box for the answer behind it -/
structure OB (w W : World) (z : Int) (vn vs : Value) : Prop where
  t : W.heap[w.heap.size]? = some (.cells #[.int .i64 z, vn, vs] 25 (0, 0))
  r : W.heap[w.heap.size + 1]? = some (.cells #[.int .i64 0, .slice none 0 0, .slice none 0 0] 25 (0, 0))
  b : Below w.heap.size w W
theorem OB.new (w : World) (z : Int) (vn vs : Value) : OB w ((w.alloc (.cells #[.int .i64 z, vn, vs] 25)).alloc (.cells #[.int .i64 0, .slice none 0 0, .slice none 0 0] 25)) z vn vs := by
  refine ⟨?_, ?_, nnext (allocB _ _) (allocB _ _)⟩
  · rw [(allocB _ _).block _ (by simp)]
    exact heap_alloc_new w _
  · have h := heap_alloc_new (w.alloc (.cells #[.int .i64 z, vn, vs] 25)) (.cells #[.int .i64 0, .slice none 0 0, .slice none 0 0] 25)
    rw [show (w.alloc (.cells #[.int .i64 z, vn, vs] 25)).heap.size = w.heap.size + 1 by simp] at h
    exact h
theorem OB.lt {w W : World} {z : Int} {vn vs : Value} (h : OB w W z vn vs) : w.heap.size + 1 < W.heap.size := (Array.getElem?_eq_some_iff.1 h.r).1
theorem OB.next {w W V : World} {z : Int} {vn vs : Value} (h : OB w W z vn vs) (hb : Below W.heap.size W V) : OB w V z vn vs := by
  have := h.lt
  exact ⟨(hb.block _ (by omega)).trans h.t, (hb.block _ (by omega)).trans h.r, nnext h.b hb⟩
theorem OB.drew {w W : World} {z : Int} {vn vs : Value} (h : OB w W z vn vs) : OB w W.drew z vn vs := h.next (Below.refl _ _).drew
theorem grown_below {W V : World} (h : W.grownBy V none) : Below W.heap.size W V := ⟨h.os, h.tape, h.output, h.size, fun k hk => h.block k hk (by simp)⟩
theorem OB.grown {w W V : World} {z : Int} {vn vs : Value} (h : OB w W z vn vs) (hg : W.grownBy V none) : OB w V z vn vs := h.next (grown_below hg)
theorem OB.cells {w W : World} {z : Int} {vn vs : Value} (h : OB w W z vn vs) : W.cell? ⟨w.heap.size, 0, none⟩ = some (.int .i64 z) ∧ W.cell? ⟨w.heap.size, 1, none⟩ = some vn ∧ W.cell? ⟨w.heap.size, 2, none⟩ = some vs ∧ W.frozen? ⟨w.heap.size, 1, none⟩ = false ∧ W.frozen? ⟨w.heap.size, 2, none⟩ = false := by
  have h1 := h.t
  refine ⟨?_, ?_, ?_, ?_, ?_⟩ <;> simp [World.cell?, World.frozen?, h1]
theorem OB.res {w W : World} {z : Int} {vn vs : Value} (h : OB w W z vn vs) : W.cell? ⟨w.heap.size + 1, 0, none⟩ = some (.int .i64 0) ∧ W.cell? ⟨w.heap.size + 1, 1, none⟩ = some (.slice none 0 0) ∧ W.cell? ⟨w.heap.size + 1, 2, none⟩ = some (.slice none 0 0) ∧ W.frozen? ⟨w.heap.size + 1, 0, none⟩ = false ∧ W.frozen? ⟨w.heap.size + 1, 1, none⟩ = false ∧ W.frozen? ⟨w.heap.size + 1, 2, none⟩ = false := by
  have h1 := h.r
  refine ⟨?_, ?_, ?_, ?_, ?_, ?_⟩ <;> simp [World.cell?, World.frozen?, h1]
theorem OB.put {w W : World} {z : Int} {vn vs : Value} (h : OB w W z vn vs) (v : Value) (c : Nat) (vn' vs' : Value) (hc : (#[.int .i64 z, vn, vs] : Array Value).set! c v = #[.int .i64 z, vn', vs']) : OB w (W.setCell ⟨w.heap.size, c, none⟩ v) z vn' vs' := by
  refine ⟨?_, (Below.heap_setCell _ _ _ _ (by simp)).trans h.r, h.b.setCell (by simp) _⟩
  rw [block_set v h.t, ← hc]
  simp
/-- copied, but for the answer -/
def OwnQ (w : World) (z : Int) (ns : List Nd) (ss : List Int) (wx : World) : Prop :=
  ∃ an cn ai ci, OB w wx z (.slice an ns.length cn) (.slice ai ss.length ci) ∧ OwnS wx (w.heap.size + 2) (.slice an ns.length cn) ns ∧ OwnS wx (w.heap.size + 2) (.slice ai ss.length ci) ss
theorem own_fin {w W : World} {z : Int} {vn vs : Value} {an ai : Option Addr} {cn ci : Nat} {ns : List Nd} {ss : List Int} (h : OB w W z vn vs) (hn : OwnS W (w.heap.size + 2) (.slice an ns.length cn) ns) (hs : OwnS W (w.heap.size + 2) (.slice ai ss.length ci) ss) :
    OwnQ w z ns ss ((W.setCell ⟨w.heap.size, 1, none⟩ (.slice an ns.length cn)).setCell ⟨w.heap.size, 2, none⟩ (.slice ai ss.length ci)) := by
  have no : ∀ {α : Type} [Lay α] {v : Value} {xs : List α}, OwnS W (w.heap.size + 2) v xs → v.ownBlock ≠ some w.heap.size := by
    intro α _ v xs ho e
    rcases ho with ⟨rfl, _⟩ | ⟨g, cap, rfl, hB, _⟩
    · cases e
    · simp [Value.ownBlock] at e; omega
  exact ⟨an, cn, ai, ci, (h.put _ 1 _ _ rfl).put _ 2 _ _ rfl, (hn.other (no hn) _).other (no hn) _, (hs.other (no hs) _).other (no hs) _⟩
theorem OwnQ.next {w W V : World} {z : Int} {ns : List Nd} {ss : List Int} (h : OwnQ w z ns ss W) (hb : Below W.heap.size W V) : OwnQ w z ns ss V := by
  obtain ⟨an, cn, ai, ci, h1, h2, h3⟩ := h
  exact ⟨an, cn, ai, ci, h1.next hb, h2.next hb, h3.next hb⟩
theorem own_low {α : Type} [Lay α] {w W : World} {v : Value} {xs : List α} {B : Nat} (h : OwnS W B v xs) (hB : w.heap.size + 2 ≤ B) : OwnS W (w.heap.size + 2) v xs := h.lower hB
/-- what a copy gives -/
def GivesT (w : World) (t : Tr) (e : Ending) (w' : World) : Prop :=
  ∃ vn vs, e = .returned (.agg #[.int .i64 t.z, vn, vs]) ∧ OwnS w' w.heap.size vn t.ns ∧ OwnS w' w.heap.size vs t.ss ∧ Below w.heap.size w w'
theorem gives_copy {w W : World} {t : Tr} {an ai : Option Addr} {cn ci : Nat} {v0 v1 v2 : Value} (h : OB w W t.z (.slice an t.ns.length cn) (.slice ai t.ss.length ci)) (hn : OwnS W (w.heap.size + 2) (.slice an t.ns.length cn) t.ns) (hs : OwnS W (w.heap.size + 2) (.slice ai t.ss.length ci) t.ss) :
    GivesT w t (.returned (.agg #[.int .i64 t.z, .slice an t.ns.length cn, .slice ai t.ss.length ci])) (((W.setCell ⟨w.heap.size + 1, 0, none⟩ v0).setCell ⟨w.heap.size + 1, 1, none⟩ v1).setCell ⟨w.heap.size + 1, 2, none⟩ v2) := by
  have no : ∀ {α : Type} [Lay α] {v : Value} {xs : List α}, OwnS W (w.heap.size + 2) v xs → v.ownBlock ≠ some (w.heap.size + 1) := by
    intro α _ v xs ho e
    rcases ho with ⟨rfl, _⟩ | ⟨g, cap, rfl, hB, _⟩
    · cases e
    · simp [Value.ownBlock] at e; omega
  exact ⟨_, _, rfl, (((hn.lower (by omega)).other (no hn) _).other (no hn) _).other (no hn) _, (((hs.lower (by omega)).other (no hs) _).other (no hs) _).other (no hs) _, ((h.b.setCell (by simp) _).setCell (by simp) _).setCell (by simp) _⟩

set_option maxRecDepth 20000 in
set_option maxHeartbeats 2000000 in
theorem own_any (t : Tr) (vn vs : Value) (w : World) (hn : SeqV w vn t.ns) (hs : SeqV w vs t.ss) (hl : t.ns.length * 88 ≤ 140737488355328) (hls : t.ss.length * 8 ≤ 140737488355328) :
    Calls Tryz.prog 12 #[.agg #[.int .i64 t.z, vn, vs]] w (GivesT w t) := by
  have HN := hide (fun W (hW : Below w.heap.size w W) => hn.next hW)
  have HS := hide (fun W (hW : Below w.heap.size w W) => hs.next hW)
  obtain ⟨na, nc, rfl⟩ := seq_slice hn
  obtain ⟨sa, sc, rfl⟩ := seq_slice hs
  have O0 := hide (OB.new w t.z (.slice na t.ns.length nc) (.slice sa t.ss.length sc))
  clear hn hs
  go_enter Tryz.func12, Tryz.ntmps12
  go_upto_region 1 with fail
  go_cut [2] from 3 (fun t2 wx => t2 = .pointer (some ⟨w.heap.size + 1, 0, none⟩) ∧ Hid (OwnQ w t.z t.ns t.ss wx))
  case first =>
    go_region_law (first
      | (refine step_copyN (by kernel_rfl) _ _ (by rfl) (by rfl) (.slice na t.ns.length nc) (by rfl) t.ns (unhide HN _ (OB.b (z := t.z) (vn := .slice na t.ns.length nc) (vs := .slice sa t.ss.length sc) (by first | exact unhide OI | exact (unhide O0).drew | exact unhide O0))) hl ?_; intro aN cN wN ho hg; have ON := hide (OB.grown (z := t.z) (vn := .slice na t.ns.length nc) (vs := .slice sa t.ss.length sc) (by first | exact unhide OI | exact (unhide O0).drew | exact unhide O0) hg); have GN := hide (OwnS.lower (C := w.heap.size + 2) ho (OB.lt (z := t.z) (vn := .slice na t.ns.length nc) (vs := .slice sa t.ss.length sc) (by first | exact unhide OI | exact (unhide O0).drew | exact unhide O0))); (try have GI' := hide ((unhide GI).next (grown_below hg))); obtain ⟨n0, n1, n2, n3, n4⟩ := (unhide ON).cells; clear ho hg)
      | (refine step_copyI (by kernel_rfl) _ _ (by rfl) (by rfl) (.slice sa t.ss.length sc) (by rfl) t.ss (unhide HS _ (OB.b (z := t.z) (vn := .slice na t.ns.length nc) (vs := .slice sa t.ss.length sc) (by first | exact unhide ON | exact (unhide O0).drew | exact unhide O0))) hls ?_; intro aI cI wI ho hg; have OI := hide (OB.grown (z := t.z) (vn := .slice na t.ns.length nc) (vs := .slice sa t.ss.length sc) (by first | exact unhide ON | exact (unhide O0).drew | exact unhide O0) hg); have GI := hide (OwnS.lower (C := w.heap.size + 2) ho (OB.lt (z := t.z) (vn := .slice na t.ns.length nc) (vs := .slice sa t.ss.length sc) (by first | exact unhide ON | exact (unhide O0).drew | exact unhide O0))); (try have GN' := hide ((unhide GN).next (grown_below hg))); obtain ⟨i0, i1, i2, i3, i4⟩ := (unhide OI).cells; clear ho hg))
    all_goals go_wp2_with fail
    all_goals go_meet
    all_goals first
      | exact ⟨rfl, hide (own_fin (unhide OI) (unhide GN') (unhide GI))⟩
      | exact ⟨rfl, hide (own_fin (unhide ON) (unhide GN) (unhide GI'))⟩
  case rest =>
    obtain ⟨rfl, hq⟩ := hcut
    clear HN HS O0
    obtain ⟨an, cn, ai, ci, q, qn, qs⟩ := unhide hq
    obtain ⟨c0, c1, c2, _, _⟩ := q.cells
    obtain ⟨r0, r1, r2, f0, f1, f2⟩ := q.res
    have FIN := hide (fun (v0 v1 v2 : Value) => gives_copy (v0 := v0) (v1 := v1) (v2 := v2) (t := t) q qn qs)
    have hne : w.heap.size ≠ w.heap.size + 1 := by omega
    clear q qn qs hq
    go_wp2_with fail
    exact bodyPost_ret (v := .agg #[.int .i64 t.z, .slice an t.ns.length cn, .slice ai t.ss.length ci]) (by simp [results, Tryz.results12, go_sem, r0, r1, r2]) rfl (unhide FIN _ _ _)

set_option maxRecDepth 20000 in
set_option maxHeartbeats 2000000 in
theorem rcopyT_any (t : Tr) (vn vs : Value) (w : World) (hn : SeqV w vn t.ns) (hs : SeqV w vs t.ss) (hl : t.ns.length * 88 ≤ 140737488355328) (hls : t.ss.length * 8 ≤ 140737488355328) :
    Calls Tryz.prog 8 #[.agg #[.int .i64 t.z, vn, vs]] w (GivesT w t) := by
  have HN := hide (fun W (hW : Below w.heap.size w W) => hn.next hW)
  have HS := hide (fun W (hW : Below w.heap.size w W) => hs.next hW)
  obtain ⟨na, nc, rfl⟩ := seq_slice hn
  obtain ⟨sa, sc, rfl⟩ := seq_slice hs
  have O0 := hide (OB.new w t.z (.slice na t.ns.length nc) (.slice sa t.ss.length sc))
  clear hn hs
  go_enter Tryz.func8, Tryz.ntmps8
  go_wp2_with (at_builtin; refine wpList_copyN (by kernel_rfl) _ _ rfl rfl (.slice na t.ns.length nc) rfl t.ns (unhide HN _ (unhide O0).b) hl ?_)
  intro vN wN ho hg
  have ON := hide ((unhide O0).grown hg)
  have GN := hide (ho.lower (C := w.heap.size + 2) (by simp))
  obtain ⟨an, cn, rfl, _⟩ := ho.slice
  have q1 := (unhide ON).put (.slice an t.ns.length cn) 1 _ _ rfl
  have GN1 := hide ((unhide GN).other (a := ⟨w.heap.size, 1, none⟩) (by
    intro e
    rcases unhide GN with ⟨h, _⟩ | ⟨g, cap, h, hB, _⟩
    · rw [h] at e; cases e
    · rw [h] at e; simp [Value.ownBlock] at e; omega) (.slice an t.ns.length cn))
  have HO1 := hide q1
  obtain ⟨n0, n1, n2, n3, n4⟩ := (unhide ON).cells
  obtain ⟨m0, m1, m2, m3, m4⟩ := q1.cells
  clear ho hg q1
  go_wp2_with (at_builtin; refine wpList_copyI (by kernel_rfl) _ _ rfl rfl (.slice sa t.ss.length sc) rfl t.ss (unhide HS _ (unhide HO1).b) hls ?_)
  intro vI wI ho hg
  have OI := (unhide HO1).grown hg
  have SI := (unhide ON).lt
  have GI := ho.lower (C := w.heap.size + 2) SI
  have GN2 := (unhide GN1).next (grown_below hg)
  obtain ⟨ai, ci, rfl, _⟩ := ho.slice
  have nI : (Value.slice ai t.ss.length ci).ownBlock ≠ some w.heap.size := by
    intro e
    rcases GI with ⟨h, _⟩ | ⟨g, cap, h, hB, _⟩
    · rw [h] at e; cases e
    · rw [h] at e; simp [Value.ownBlock] at e; omega
  have nN : (Value.slice an t.ns.length cn).ownBlock ≠ some w.heap.size := by
    intro e
    rcases GN2 with ⟨h, _⟩ | ⟨g, cap, h, hB, _⟩
    · rw [h] at e; cases e
    · rw [h] at e; simp [Value.ownBlock] at e; omega
  have Q : Hid (OwnQ w t.z t.ns t.ss (wI.setCell ⟨w.heap.size, 2, none⟩ (.slice ai t.ss.length ci))) := ⟨an, cn, ai, ci, OI.put _ 2 _ _ rfl, GN2.other nN _, GI.other nI _⟩
  obtain ⟨i0, i1, i2, i3, i4⟩ := OI.cells
  clear ho hg GI GN2 nI nN OI HN HS O0 ON GN GN1 HO1
  go_upto_region 3 with fail
  generalize hwq : wI.setCell ⟨w.heap.size, 2, none⟩ (.slice ai t.ss.length ci) = wq at *
  · have hq := Q
    clear hwq Q
    obtain ⟨an, cn, ai, ci, q, qn, qs⟩ := unhide hq
    obtain ⟨c0, c1, c2, _, _⟩ := q.cells
    obtain ⟨r0, r1, r2, f0, f1, f2⟩ := q.res
    have FIN := hide (fun (v0 v1 v2 : Value) => gives_copy (v0 := v0) (v1 := v1) (v2 := v2) (t := t) q qn qs)
    have hne : w.heap.size ≠ w.heap.size + 1 := by omega
    clear q qn qs hq
    go_wp2_with fail
    exact bodyPost_ret (v := .agg #[.int .i64 t.z, .slice an t.ns.length cn, .slice ai t.ss.length ci]) (by simp [results, Tryz.results8, go_sem, r0, r1, r2]) rfl (unhide FIN _ _ _)

/- New, Get -/
theorem one_root (w : World) : OwnS (w.alloc (.cells #[.string ⟨#[47]⟩, .string ⟨#[]⟩, .int .i64 0, .int .i64 0, .int .i64 0, .int .i64 0, .int .i64 0, .int .i64 0, .int .i64 0] 46)) w.heap.size (.slice (some ⟨w.heap.size, 0, none⟩) 1 1) [nroot] :=
  .inr ⟨w.heap.size, 1, rfl, Nat.le_refl _, [], by rw [heap_alloc_new]; rfl, by decide, by decide, by decide⟩
set_option maxRecDepth 20000 in
set_option maxHeartbeats 1000000 in
theorem tnew_any (w : World) : Calls Tryz.prog 31 #[] w (GivesT w trNew) := by
  have H : Hid (GivesT w trNew (.returned (.agg #[.int .i64 0, .slice (some ⟨w.heap.size + 1, 0, none⟩) 1 1, .slice none 0 0])) ((w.alloc (.cells #[.int .i64 0, .slice (some ⟨w.heap.size + 1, 0, none⟩) 1 1, .slice none 0 0] 25)).alloc (.cells #[.string ⟨#[47]⟩, .string ⟨#[]⟩, .int .i64 0, .int .i64 0, .int .i64 0, .int .i64 0, .int .i64 0, .int .i64 0, .int .i64 0] 46))) := by
    have h := one_root (w.alloc (.cells #[.int .i64 0, .slice (some ⟨w.heap.size + 1, 0, none⟩) 1 1, .slice none 0 0] 25))
    rw [show (w.alloc (.cells #[.int .i64 0, .slice (some ⟨w.heap.size + 1, 0, none⟩) 1 1, .slice none 0 0] 25)).heap.size = w.heap.size + 1 by simp] at h
    exact ⟨_, _, rfl, h.lower (by omega), .inl ⟨rfl, rfl⟩, nnext (allocB _ _) (allocB _ _)⟩
  go_enter Tryz.func31, Tryz.ntmps31
  go_wp2_with fail
  exact bodyPost_ret (v := .agg #[.int .i64 0, .slice (some ⟨w.heap.size + 1, 0, none⟩) 1 1, .slice none 0 0]) (by simp [results, Tryz.results31, go_sem]) rfl (unhide H)
set_option maxRecDepth 20000 in
set_option maxHeartbeats 1000000 in
theorem rnew_any (w : World) : Calls Tryz.prog 10 #[] w (GivesT w trNew) := by
  have H : Hid (GivesT w trNew (.returned (.agg #[.int .i64 0, .slice (some ⟨w.heap.size + 1, 0, none⟩) 1 1, .slice none 0 0])) ((w.alloc (.cells #[.int .i64 0, .slice (some ⟨w.heap.size + 1, 0, none⟩) 1 1, .slice none 0 0] 25)).alloc (.cells #[.string ⟨#[47]⟩, .string ⟨#[]⟩, .int .i64 0, .int .i64 0, .int .i64 0, .int .i64 0, .int .i64 0, .int .i64 0, .int .i64 0] 46))) := by
    have h := one_root (w.alloc (.cells #[.int .i64 0, .slice (some ⟨w.heap.size + 1, 0, none⟩) 1 1, .slice none 0 0] 25))
    rw [show (w.alloc (.cells #[.int .i64 0, .slice (some ⟨w.heap.size + 1, 0, none⟩) 1 1, .slice none 0 0] 25)).heap.size = w.heap.size + 1 by simp] at h
    exact ⟨_, _, rfl, h.lower (by omega), .inl ⟨rfl, rfl⟩, nnext (allocB _ _) (allocB _ _)⟩
  go_enter Tryz.func10, Tryz.ntmps10
  go_wp2_with fail
  exact bodyPost_ret (v := .agg #[.int .i64 0, .slice (some ⟨w.heap.size + 1, 0, none⟩) 1 1, .slice none 0 0]) (by simp [results, Tryz.results10, go_sem]) rfl (unhide H)

end Go.Proofs.YtalnmhgedfgooaaGreatDoor

namespace Go.Proofs.YtalnmhgedfgooaaGreatDoor
open Go.RowKit

/-- a tree's box, and a node's for the answer -/
structure GB (w W : World) (z : Int) (vn vs : Value) : Prop where
  t : W.heap[w.heap.size]? = some (.cells #[.int .i64 z, vn, vs] 25 (0, 0))
  r : W.heap[w.heap.size + 1]? = some (.cells #[.string ⟨#[]⟩, .string ⟨#[]⟩, .int .i64 0, .int .i64 0, .int .i64 0, .int .i64 0, .int .i64 0, .int .i64 0, .int .i64 0] 46 (0, 0))
  b : Below w.heap.size w W
theorem GB.new (w : World) (z : Int) (vn vs : Value) : GB w ((w.alloc (.cells #[.int .i64 z, vn, vs] 25)).alloc (.cells #[.string ⟨#[]⟩, .string ⟨#[]⟩, .int .i64 0, .int .i64 0, .int .i64 0, .int .i64 0, .int .i64 0, .int .i64 0, .int .i64 0] 46)) z vn vs := by
  refine ⟨?_, ?_, nnext (allocB _ _) (allocB _ _)⟩
  · rw [(allocB _ _).block _ (by simp)]
    exact heap_alloc_new w _
  · have h := heap_alloc_new (w.alloc (.cells #[.int .i64 z, vn, vs] 25)) (.cells #[.string ⟨#[]⟩, .string ⟨#[]⟩, .int .i64 0, .int .i64 0, .int .i64 0, .int .i64 0, .int .i64 0, .int .i64 0, .int .i64 0] 46)
    rw [show (w.alloc (.cells #[.int .i64 z, vn, vs] 25)).heap.size = w.heap.size + 1 by simp] at h
    exact h
theorem GB.lt {w W : World} {z : Int} {vn vs : Value} (h : GB w W z vn vs) : w.heap.size + 1 < W.heap.size := (Array.getElem?_eq_some_iff.1 h.r).1
theorem GB.next {w W V : World} {z : Int} {vn vs : Value} (h : GB w W z vn vs) (hb : Below W.heap.size W V) : GB w V z vn vs := by
  have := h.lt
  exact ⟨(hb.block _ (by omega)).trans h.t, (hb.block _ (by omega)).trans h.r, nnext h.b hb⟩
theorem GB.c1 {w W : World} {z : Int} {vn vs : Value} (h : GB w W z vn vs) : W.cell? ⟨w.heap.size, 1, none⟩ = some vn := by simp [World.cell?, h.t]
theorem GB.one {w W : World} {z : Int} {vn vs : Value} (h : GB w W z vn vs) : OneR W (w.heap.size + 1) nzero := h.r

set_option maxRecDepth 20000 in
set_option maxHeartbeats 2000000 in
theorem tget_gap (z : Int) (vn vs : Value) (ns A B : List Nd) (p : List UInt8) (w : World) (hn : SeqV w vn ns) (hl : ns.length ≤ 100000) (G : NGap ns A B p) :
    Calls Tryz.prog 16 #[.agg #[.int .i64 z, vn, vs], .string ⟨p.toArray⟩] w fun e w' => e = .returned (.tuple #[nodeV nzero, .int .i64 7]) ∧ Below w.heap.size w w' := by
  have CF := hide (fun W (hW : Below w.heap.size w W) => nfind_gap vn ns A B p W (hn.next hW) hl G)
  have B0 := hide (GB.new w z vn vs)
  obtain ⟨na, nc, rfl⟩ := seq_slice hn
  clear hn G
  go_enter Tryz.func16, Tryz.ntmps16
  go_wp2_with fail
  refine (unhide CF _ (unhide B0).b).mono ?_
  rintro e w1 ⟨rfl, hb1⟩
  have b1 := (unhide B0).next hb1
  have o1 := b1.one
  have c0 := o1.cellN 0 _ rfl
  have c1 := o1.cellN 1 _ rfl
  have c2 := o1.cellN 2 _ rfl
  have c3 := o1.cellN 3 _ rfl
  have c4 := o1.cellN 4 _ rfl
  have c5 := o1.cellN 5 _ rfl
  have c6 := o1.cellN 6 _ rfl
  have c7 := o1.cellN 7 _ rfl
  have c8 := o1.cellN 8 _ rfl
  have f0 := o1.frozenN 0
  have f1 := o1.frozenN 1
  have f2 := o1.frozenN 2
  have f3 := o1.frozenN 3
  have f4 := o1.frozenN 4
  have f5 := o1.frozenN 5
  have f6 := o1.frozenN 6
  have f7 := o1.frozenN 7
  have f8 := o1.frozenN 8
  have BB := b1.b
  have HBB := hide BB
  clear CF B0 hb1 b1 o1 BB
  go_wp2_with fail
  have BB := unhide HBB
  exact bodyPost_ret (v := .tuple #[nodeV nzero, .int .i64 7]) (by simp [results, Tryz.results16, go_sem, nodeV, nzero, c0, c1, c2, c3, c4, c5, c6, c7, c8]) rfl
    ⟨rfl, ((((((((BB.setCell (by simp) _).setCell (by simp) _).setCell (by simp) _).setCell (by simp) _).setCell (by simp) _).setCell (by simp) _).setCell (by simp) _).setCell (by simp) _).setCell (by simp) _⟩

set_option maxRecDepth 20000 in
set_option maxHeartbeats 2000000 in
theorem tget_there (z : Int) (vn vs : Value) (ns A B : List Nd) (n : Nd) (p : List UInt8) (w : World) (hn : SeqV w vn ns) (hl : ns.length ≤ 100000) (T : NThere ns A n B p) (hp : n.p.length ≤ 140737488355328) (hd : n.d.length ≤ 140737488355328) :
    Calls Tryz.prog 16 #[.agg #[.int .i64 z, vn, vs], .string ⟨p.toArray⟩] w fun e w' => e = .returned (.tuple #[nodeV n, .int .i64 0]) ∧ Below w.heap.size w w' := by
  have CF := hide (fun W (hW : Below w.heap.size w W) => nfind_there vn ns A B n p W (hn.next hW) hl T)
  have CC := hide (fun W => tcopied_any n W hp hd)
  unfold nodeV at CC
  have hlt : A.length < ns.length := by rw [T.eq]; simp
  have hat : ns[A.length]? = some n := by rw [T.eq]; exact nat_at A n B
  obtain ⟨b, off, cap, rfl, hb, hr, _, _⟩ := seq_row hn (by rw [T.eq]; simp)
  have HR := hide (fun W (hW : Below w.heap.size w W) => hr.kept hW hb)
  have B0 := hide (GB.new w z (.slice (some ⟨b, off, none⟩) ns.length cap) vs)
  clear hn T hr
  have HAT := hide hat
  clear hat
  go_enter Tryz.func16, Tryz.ntmps16
  go_wp2_with fail
  refine (unhide CF _ (unhide B0).b).mono ?_
  rintro e w1 ⟨rfl, hb1⟩
  have b1 := (unhide B0).next hb1
  have HB1 := hide b1
  have e1 := b1.c1
  have q := unhide HR w1 b1.b
  have d0 := q.n0 (unhide HAT)
  have d1 := q.n1 (unhide HAT)
  have d2 := q.n2 (unhide HAT)
  have d3 := q.n3 (unhide HAT)
  have d4 := q.n4 (unhide HAT)
  have d5 := q.n5 (unhide HAT)
  have d6 := q.n6 (unhide HAT)
  have d7 := q.n7 (unhide HAT)
  have d8 := q.n8 (unhide HAT)
  clear q CF b1 hb1
  go_wp2_with fail
  refine (unhide CC _).mono ?_
  rintro e w2 ⟨rfl, hb2⟩
  have b2 := (unhide HB1).next hb2
  have o1 := b2.one
  have c0 := o1.cellN 0 _ rfl
  have c1 := o1.cellN 1 _ rfl
  have c2 := o1.cellN 2 _ rfl
  have c3 := o1.cellN 3 _ rfl
  have c4 := o1.cellN 4 _ rfl
  have c5 := o1.cellN 5 _ rfl
  have c6 := o1.cellN 6 _ rfl
  have c7 := o1.cellN 7 _ rfl
  have c8 := o1.cellN 8 _ rfl
  have f0 := o1.frozenN 0
  have f1 := o1.frozenN 1
  have f2 := o1.frozenN 2
  have f3 := o1.frozenN 3
  have f4 := o1.frozenN 4
  have f5 := o1.frozenN 5
  have f6 := o1.frozenN 6
  have f7 := o1.frozenN 7
  have f8 := o1.frozenN 8
  have HBB := hide b2.b
  clear b2 hb2 o1 CC d0 d1 d2 d3 d4 d5 d6 d7 d8 e1
  go_wp2_with fail
  have BB := unhide HBB
  exact bodyPost_ret (v := .tuple #[nodeV n, .int .i64 0]) (by simp [results, Tryz.results16, go_sem, nodeV, c0, c1, c2, c3, c4, c5, c6, c7, c8]) rfl
    ⟨rfl, ((((((((BB.setCell (by simp) _).setCell (by simp) _).setCell (by simp) _).setCell (by simp) _).setCell (by simp) _).setCell (by simp) _).setCell (by simp) _).setCell (by simp) _).setCell (by simp) _⟩

/- Kids -/
def kidsP (ns : List Nd) (p : List UInt8) : List (List UInt8) := (ns.filter fun n => decide (dirOf n.p = p)).map fun n => stepOf n.p
theorem kidsP_take {ns : List Nd} {k : Nat} {x : Nd} (hx : ns[k]? = some x) (p : List UInt8) : kidsP (ns.take (k + 1)) p = kidsP (ns.take k) p ++ (if dirOf x.p = p then [stepOf x.p] else []) := by
  rw [List.take_add_one, hx]
  simp only [kidsP, Option.toList_some, List.filter_append, List.map_append, List.filter_cons, List.filter_nil, decide_eq_true_eq]
  split <;> simp
theorem kidsP_len (ns : List Nd) (p : List UInt8) : (kidsP ns p).length = kidsN ns p := by
  rw [kidsP, List.length_map, kidsN, List.countP_eq_length_filter]

end Go.Proofs.YtalnmhgedfgooaaGreatDoor

namespace Go.Proofs.YtalnmhgedfgooaaGreatDoor
open Go.ChangeShapes Go.WideShapes Go.ChangeAt Go.RowKit Go.ChangeMaps

theorem ncellsStr : Tryz.prog.cellsOf 9 = 1 := by kernel_rfl
theorem ncellsInt : Tryz.prog.cellsOf 3 = 1 := by kernel_rfl
theorem ncellsNode : Tryz.prog.cellsOf 46 = 9 := by kernel_rfl
theorem ncellsStat : Tryz.prog.cellsOf 44 = 7 := by kernel_rfl
theorem ncellsNs : Tryz.prog.cellsOf 22 = 1 := by kernel_rfl
theorem ncellsIs : Tryz.prog.cellsOf 23 = 1 := by kernel_rfl
theorem ncellsTree : Tryz.prog.cellsOf 25 = 3 := by kernel_rfl
theorem nbytesNode : Tryz.prog.bytesOf 46 = 88 := by kernel_rfl
theorem nbytesInt : Tryz.prog.bytesOf 3 = 8 := by kernel_rfl
theorem nlaidOut : laidOutB Tryz.prog = true := by kernel_rfl
theorem nlist_of (s : ByteArray) : ∃ l : List UInt8, s = ⟨l.toArray⟩ := ⟨s.data.toList, rfl⟩

section
variable {H : Type} {enc : TypeId × Value → H} {W : World} {base : Nat} {spare : Nat → Bool} {held : Bool}
def nodeD (n : Nd) : DataW H := .agg [.lit (.string n.p), .lit (.string n.d), .agg [.lit (.int .i64 n.c), .lit (.int .i64 n.m), .lit (.int .i64 n.q), .lit (.int .i64 n.v), .lit (.int .i64 n.k), .lit (.int .i64 n.o), .lit (.int .i64 n.n)]]
set_option maxRecDepth 10000 in
theorem open_stat {n : Nat} {cs : List Value} {x : DataW H × List MemPlace} (hl : cs.length = 7) (h : DataW.trod enc Tryz.prog W base spare held n 44 cs = some x) :
    ∃ i0 i1 i2 i3 i4 i5 i6 : Int, cs = [.int .i64 i0, .int .i64 i1, .int .i64 i2, .int .i64 i3, .int .i64 i4, .int .i64 i5, .int .i64 i6] ∧ x.1 = .agg [.lit (.int .i64 i0), .lit (.int .i64 i1), .lit (.int .i64 i2), .lit (.int .i64 i3), .lit (.int .i64 i4), .lit (.int .i64 i5), .lit (.int .i64 i6)] := by
  match cs, hl with
  | [c0, c1, c2, c3, c4, c5, c6], _ =>
    obtain ⟨xs, k, _, hx, _, hlen, hfs⟩ := DataW.trod_struct Tryz.underlying44 h
    match xs, hlen with
    | [y0, y1, y2, y3, y4, y5, y6], _ =>
      obtain ⟨i0, e0, rfl, _⟩ := DataW.trod_int Tryz.underlying3 (show DataW.trod enc Tryz.prog W base spare held k 3 [c0] = some y0 by simpa [ncellsInt] using hfs 0 _ rfl)
      obtain ⟨i1, e1, rfl, _⟩ := DataW.trod_int Tryz.underlying3 (show DataW.trod enc Tryz.prog W base spare held k 3 [c1] = some y1 by simpa [ncellsInt] using hfs 1 _ rfl)
      obtain ⟨i2, e2, rfl, _⟩ := DataW.trod_int Tryz.underlying3 (show DataW.trod enc Tryz.prog W base spare held k 3 [c2] = some y2 by simpa [ncellsInt] using hfs 2 _ rfl)
      obtain ⟨i3, e3, rfl, _⟩ := DataW.trod_int Tryz.underlying3 (show DataW.trod enc Tryz.prog W base spare held k 3 [c3] = some y3 by simpa [ncellsInt] using hfs 3 _ rfl)
      obtain ⟨i4, e4, rfl, _⟩ := DataW.trod_int Tryz.underlying3 (show DataW.trod enc Tryz.prog W base spare held k 3 [c4] = some y4 by simpa [ncellsInt] using hfs 4 _ rfl)
      obtain ⟨i5, e5, rfl, _⟩ := DataW.trod_int Tryz.underlying3 (show DataW.trod enc Tryz.prog W base spare held k 3 [c5] = some y5 by simpa [ncellsInt] using hfs 5 _ rfl)
      obtain ⟨i6, e6, rfl, _⟩ := DataW.trod_int Tryz.underlying3 (show DataW.trod enc Tryz.prog W base spare held k 3 [c6] = some y6 by simpa [ncellsInt] using hfs 6 _ rfl)
      simp only [List.cons.injEq, and_true] at e0 e1 e2 e3 e4 e5 e6
      subst e0 e1 e2 e3 e4 e5 e6
      subst hx
      exact ⟨i0, i1, i2, i3, i4, i5, i6, rfl, rfl⟩
set_option maxRecDepth 10000 in
theorem open_node {n : Nat} {cs : List Value} {x : DataW H × List MemPlace} (hl : cs.length = 9) (h : DataW.trod enc Tryz.prog W base spare held n 46 cs = some x) : ∃ f : Nd, cs = ncells f ∧ x.1 = nodeD f := by
  match cs, hl with
  | [c0, c1, c2, c3, c4, c5, c6, c7, c8], _ =>
    obtain ⟨xs, k, _, hx, _, hlen, hfs⟩ := DataW.trod_struct Tryz.underlying46 h
    match xs, hlen with
    | [y0, y1, y2], _ =>
      obtain ⟨s0, e0, rfl, _⟩ := DataW.trod_string Tryz.underlying9 (show DataW.trod enc Tryz.prog W base spare held k 9 [c0] = some y0 by simpa [ncellsStr] using hfs 0 _ rfl)
      obtain ⟨s1, e1, rfl, _⟩ := DataW.trod_string Tryz.underlying9 (show DataW.trod enc Tryz.prog W base spare held k 9 [c1] = some y1 by simpa [ncellsStr] using hfs 1 _ rfl)
      obtain ⟨i0, i1, i2, i3, i4, i5, i6, e2, hy⟩ := open_stat (cs := [c2, c3, c4, c5, c6, c7, c8]) rfl (show DataW.trod enc Tryz.prog W base spare held k 44 [c2, c3, c4, c5, c6, c7, c8] = some y2 by simpa [ncellsStr, ncellsStat] using hfs 2 _ rfl)
      simp only [List.cons.injEq, and_true] at e0 e1 e2
      obtain ⟨rfl, rfl, rfl, rfl, rfl, rfl, rfl⟩ := e2
      subst e0 e1
      obtain ⟨l0, rfl⟩ := nlist_of s0
      obtain ⟨l1, rfl⟩ := nlist_of s1
      subst hx
      refine ⟨⟨l0, l1, i0, i1, i2, i3, i4, i5, i6⟩, rfl, ?_⟩
      simp [nodeD, hy]
theorem weights_node (n : Nd) : DataW.weights Tryz.prog 46 (nodeD n : DataW H) = [n.p.length, n.d.length] := by
  simp [DataW.weights, nodeD, Tryz.underlying46, Tryz.underlying44, DataW.weightsEach]
theorem nweightsAll_mem {e : TypeId} : ∀ (l : List (DataW H)) (d : DataW H) (x : Nat), d ∈ l → x ∈ DataW.weights Tryz.prog e d → x ∈ DataW.weightsAll Tryz.prog e l
  | d' :: r, d, x, h, hx => by
    rw [DataW.weightsAll]
    rcases List.mem_cons.1 h with rfl | h
    · exact List.mem_append.2 (.inl hx)
    · exact List.mem_append.2 (.inr (nweightsAll_mem r d x h hx))
set_option maxRecDepth 10000 in
theorem open_nodes {fuel : Nat} {v : Value} {y : DataW H × List MemPlace} (h : DataW.trod enc Tryz.prog W base spare held fuel 22 [v] = some y) :
    ∃ xs : List Nd, SeqV W v xs ∧ ∀ M, (∀ x ∈ DataW.weights Tryz.prog 22 y.1, x ≤ M) → (∀ f ∈ xs, f.p.length ≤ M ∧ f.d.length ≤ M) ∧ xs.length * 88 ≤ M := by
  rcases Go.Deep.open_slice Tryz.underlying22 h with ⟨h1, hx⟩ | ⟨a, len, cap, m, k, D, Pl, h1, hb, hl, hm, hmm, hx, hel⟩
  · simp only [List.cons.injEq, and_true] at h1
    rw [h1]
    exact ⟨[], SeqV.nil W, fun M _ => ⟨by simp, by simp⟩⟩
  · simp only [List.cons.injEq, and_true] at h1
    rw [h1]
    subst hx
    have hlm : len ≤ m := by rw [hmm]; split <;> omega
    have each : ∀ i, i < len → ∃ f : Nd, (∀ c, c < 9 → W.cell? (a.add (i * 9 + c)) = (Lay.cs f)[c]?) ∧ D i = nodeD f := by
      intro i hi
      obtain ⟨cs', g1, g2⟩ := hel i (by omega)
      rw [ncellsNode] at g1
      obtain ⟨_, hlen, hcell⟩ := World.cells?_some g1
      obtain ⟨f, rfl, hd⟩ := open_node hlen g2
      refine ⟨f, fun c hc => ?_, hd⟩
      have := hcell c hc
      rwa [Go.Deep.add_add] at this
    obtain ⟨F, hF⟩ := Go.Deep.choose_lt each
    refine ⟨(List.range len).map F, ?_, ?_⟩
    · by_cases h0 : len = 0
      · subst h0
        exact .inl ⟨some a, cap, rfl, rfl, hm⟩
      · have c0 := (hF 0 (by omega)).1 0 (by decide)
        obtain ⟨b, off, sp⟩ := a
        have hsp : sp = none := by
          cases sp with
          | none => rfl
          | some s => simp [World.cell?, Addr.add, Lay.cs, ncells] at c0; split at c0 <;> simp at c0
        subst hsp
        have hblt : b < W.heap.size := World.block_lt_of_cell? W _ (show W.cell? ((⟨b, off, none⟩ : Addr).add (0 * 9 + 0)) = some _ from c0) |> fun h => by simpa [Addr.add] using h
        refine .inr ⟨b, off, cap, by simp, by simpa using hl, hm, hblt, by simp; omega, fun j u hj => ?_⟩
        have hjl : j < len * 9 := by
          have := (List.getElem?_eq_some_iff.1 hj).1
          rw [cellsL_length, List.length_map, List.length_range] at this
          exact this
        have hi : j / 9 < len := by omega
        have hg := cellsL_get ((List.range len).map F) (j / 9) (F (j / 9)) (by rw [List.getElem?_map, List.getElem?_range hi]; rfl) (j % 9) (by show j % 9 < 9; omega)
        rw [show j / 9 * Lay.k Nd + j % 9 = j by show j / 9 * 9 + j % 9 = j; omega, hj] at hg
        have := (hF (j / 9) hi).1 (j % 9) (by omega)
        rw [show j / 9 * 9 + j % 9 = j by omega, Addr.add_lit, ← hg] at this
        exact this
    · intro M hM
      have hw : DataW.weights Tryz.prog 22 (.slice ((List.range len).map D) ((List.range (m - len)).map fun j => D (len + j)) : DataW H) =
          (len + (m - len)) * 88 :: (DataW.weightsAll Tryz.prog 46 ((List.range len).map D) ++ DataW.weightsAll Tryz.prog 46 ((List.range (m - len)).map fun j => D (len + j))) := by
        simp [DataW.weights, Tryz.underlying22, nbytesNode]
      rw [hw] at hM
      refine ⟨fun f hf => ?_, ?_⟩
      · obtain ⟨i, hi, rfl⟩ := List.mem_map.1 hf
        have hi' : i < len := by simpa using hi
        have key : ∀ x ∈ DataW.weights Tryz.prog 46 (D i), x ≤ M := fun x hx => hM x (List.mem_cons_of_mem _ (List.mem_append.2 (.inl (nweightsAll_mem _ (D i) x (List.mem_map.2 ⟨i, hi, rfl⟩) hx))))
        rw [(hF i hi').2, weights_node] at key
        exact ⟨key _ (by simp), key _ (by simp)⟩
      · have := hM _ (List.mem_cons_self ..)
        simp only [List.length_map, List.length_range]
        omega
set_option maxRecDepth 10000 in
theorem open_ints {fuel : Nat} {v : Value} {y : DataW H × List MemPlace} (h : DataW.trod enc Tryz.prog W base spare held fuel 23 [v] = some y) :
    ∃ xs : List Int, SeqV W v xs ∧ (∀ s ∈ xs, -9223372036854775808 ≤ s ∧ s ≤ 9223372036854775807) ∧ ∀ M, (∀ x ∈ DataW.weights Tryz.prog 23 y.1, x ≤ M) → xs.length * 8 ≤ M := by
  rcases Go.Deep.open_slice Tryz.underlying23 h with ⟨h1, hx⟩ | ⟨a, len, cap, m, k, D, Pl, h1, hb, hl, hm, hmm, hx, hel⟩
  · simp only [List.cons.injEq, and_true] at h1
    rw [h1]
    exact ⟨[], SeqV.nil W, by simp, fun M _ => by simp⟩
  · simp only [List.cons.injEq, and_true] at h1
    rw [h1]
    subst hx
    have hlm : len ≤ m := by rw [hmm]; split <;> omega
    have each : ∀ i, i < len → ∃ f : Int, (∀ c, c < 1 → W.cell? (a.add (i * 1 + c)) = (Lay.cs f)[c]?) ∧ (-9223372036854775808 ≤ f ∧ f ≤ 9223372036854775807) := by
      intro i hi
      obtain ⟨cs', g1, g2⟩ := hel i (by omega)
      rw [ncellsInt] at g1
      obtain ⟨_, hlen, hcell⟩ := World.cells?_some g1
      obtain ⟨c0, rfl⟩ : ∃ c0, cs' = [c0] := List.length_eq_one_iff.1 hlen
      obtain ⟨f, e0, _, hw⟩ := DataW.trod_int Tryz.underlying3 g2
      have hd := bounds_i64 hw
      simp only [List.cons.injEq, and_true] at e0
      subst e0
      refine ⟨f, fun c hc => ?_, hd⟩
      have := hcell c hc
      rwa [Go.Deep.add_add] at this
    obtain ⟨F, hF⟩ := Go.Deep.choose_lt each
    refine ⟨(List.range len).map F, ?_, ?_, ?_⟩
    · by_cases h0 : len = 0
      · subst h0
        exact .inl ⟨some a, cap, rfl, rfl, hm⟩
      · have c0 := (hF 0 (by omega)).1 0 (by decide)
        obtain ⟨b, off, sp⟩ := a
        have hsp : sp = none := by
          cases sp with
          | none => rfl
          | some s => simp [World.cell?, Addr.add, Lay.cs] at c0; split at c0 <;> simp at c0
        subst hsp
        have hblt : b < W.heap.size := World.block_lt_of_cell? W _ (show W.cell? ((⟨b, off, none⟩ : Addr).add (0 * 1 + 0)) = some _ from c0) |> fun h => by simpa [Addr.add] using h
        refine .inr ⟨b, off, cap, by simp, by simpa using hl, hm, hblt, by simp; omega, fun j u hj => ?_⟩
        have hjl : j < len * 1 := by
          have := (List.getElem?_eq_some_iff.1 hj).1
          rw [cellsL_length, List.length_map, List.length_range] at this
          exact this
        have hi : j / 1 < len := by omega
        have hg := cellsL_get ((List.range len).map F) (j / 1) (F (j / 1)) (by rw [List.getElem?_map, List.getElem?_range hi]; rfl) (j % 1) (by show j % 1 < 1; omega)
        rw [show j / 1 * Lay.k Int + j % 1 = j by show j / 1 * 1 + j % 1 = j; omega, hj] at hg
        have := (hF (j / 1) hi).1 (j % 1) (by omega)
        rw [show j / 1 * 1 + j % 1 = j by omega, Addr.add_lit, ← hg] at this
        exact this
    · intro s hs
      obtain ⟨i, hi, rfl⟩ := List.mem_map.1 hs
      exact (hF i (by simpa using hi)).2
    · intro M hM
      have hw : DataW.weights Tryz.prog 23 (.slice ((List.range len).map D) ((List.range (m - len)).map fun j => D (len + j)) : DataW H) =
          (len + (m - len)) * 8 :: (DataW.weightsAll Tryz.prog 3 ((List.range len).map D) ++ DataW.weightsAll Tryz.prog 3 ((List.range (m - len)).map fun j => D (len + j))) := by
        simp [DataW.weights, Tryz.underlying23, nbytesInt]
      rw [hw] at hM
      have := hM _ (List.mem_cons_self ..)
      simp only [List.length_map, List.length_range]
      omega
set_option maxRecDepth 10000 in
theorem open_tree {r : Reach} {b0 : Nat} {v : Value} {d : DataW H} {p : List MemPlace}
    (hv : Value.okWide Tryz.prog W r b0 25 v) (h : DataW.Trod enc Tryz.prog W base spare held 25 v d p) :
    ∃ vn vs t, v = .agg #[.int .i64 t.z, vn, vs] ∧ SeqV W vn t.ns ∧ SeqV W vs t.ss ∧ ∀ M, M ≤ 140737488355328 → (∀ x ∈ DataW.weights Tryz.prog 25 d, x ≤ M) → WfT t ∧ t.ns.length * 88 ≤ M ∧ t.ss.length * 8 ≤ M := by
  obtain ⟨cs, rfl, hsz⟩ := okWide_struct Tryz.underlying25 hv
  have hsz1 : cs.size = 3 := hsz.trans ncellsTree
  obtain ⟨l⟩ := cs
  match l, hsz1 with
  | [c0, c1, c2], _ =>
    obtain ⟨fuel, hf⟩ := h
    have hf' : DataW.trod enc Tryz.prog W base spare held fuel 25 [c0, c1, c2] = some (d, p) := by simpa [Value.cells] using hf
    obtain ⟨xs, k, _, hx, _, hlen, hfs⟩ := DataW.trod_struct Tryz.underlying25 hf'
    match xs, hlen with
    | [y0, y1, y2], _ =>
      obtain ⟨z, e0, rfl, _⟩ := DataW.trod_int Tryz.underlying3 (show DataW.trod enc Tryz.prog W base spare held k 3 [c0] = some y0 by simpa [ncellsInt] using hfs 0 _ rfl)
      obtain ⟨ns, hn, hN⟩ := open_nodes (show DataW.trod enc Tryz.prog W base spare held k 22 [c1] = some y1 by simpa [ncellsInt, ncellsNs] using hfs 1 _ rfl)
      obtain ⟨ss, hs, hb, hS⟩ := open_ints (show DataW.trod enc Tryz.prog W base spare held k 23 [c2] = some y2 by simpa [ncellsInt, ncellsNs, ncellsIs] using hfs 2 _ rfl)
      simp only [List.cons.injEq, and_true] at e0
      subst e0
      simp only [Prod.mk.injEq] at hx
      obtain ⟨rfl, _⟩ := hx
      refine ⟨c1, c2, ⟨z, ns, ss⟩, rfl, hn, hs, fun M hM hw => ?_⟩
      have hww : DataW.weights Tryz.prog 25 (.agg (List.map Prod.fst [(DataW.lit (.int .i64 z), []), y1, y2]) : DataW H) = DataW.weights Tryz.prog 22 y1.1 ++ DataW.weights Tryz.prog 23 y2.1 := by
        simp [DataW.weights, Tryz.underlying25, DataW.weightsEach]
      have hw1 : ∀ x ∈ DataW.weights Tryz.prog 22 y1.1, x ≤ M := fun x hx => hw x (by rw [hww]; exact List.mem_append.2 (.inl hx))
      have hw2 : ∀ x ∈ DataW.weights Tryz.prog 23 y2.1, x ≤ M := fun x hx => hw x (by rw [hww]; exact List.mem_append.2 (.inr hx))
      obtain ⟨h1, h2⟩ := hN M hw1
      exact ⟨⟨hb, fun n hn => by have := h1 n hn; omega⟩, h2, hS M hw2⟩
theorem sized_tree {ts : List TypeId} {ds : List (DataW H)} (h : (DataW.weightsEach Tryz.prog ts ds).all (· ≤ reachBytes) = true) {j : Nat} {d : DataW H} (ht : ts[j]? = some 25) (hd : ds[j]? = some d) : ∀ x ∈ DataW.weights Tryz.prog 25 d, x ≤ 140737488351232 := by
  intro x hx
  have e : reachBytes = 140737488351232 := by decide
  have h1 := List.all_eq_true.1 h _ (DataW.weights_mem_each ht hd x hx)
  rw [e] at h1
  simpa using h1
end
end Go.Proofs.YtalnmhgedfgooaaGreatDoor

namespace Go.Proofs.YtalnmhgedfgooaaGreatDoor
open Go.ChangeShapes Go.WideShapes Go.ChangeAt Go.RowKit Go.ChangeMaps

section
variable {H : Type} {enc : TypeId × Value → H} {W : World} {base : Nat} {spare : Nat → Bool} {held : Bool}
theorem nbulk_mem : ∀ (l : List (DataW H)) (d : DataW H), d ∈ l → Rows.uptoBulk d ≤ Rows.uptoBulkAll l
  | d' :: r, d, h => by
    rw [Rows.uptoBulkAll]
    rcases List.mem_cons.1 h with rfl | h
    · omega
    · have := nbulk_mem r d h
      omega
set_option maxRecDepth 10000 in
theorem open_nodesB {fuel : Nat} {v : Value} {y : DataW H × List MemPlace} (h : DataW.trod enc Tryz.prog W base spare held fuel 22 [v] = some y) :
    ∃ xs : List Nd, SeqV W v xs ∧ (∀ f ∈ xs, f.p.length ≤ Rows.uptoBulk y.1 ∧ f.d.length ≤ Rows.uptoBulk y.1) ∧ ∀ M, (∀ x ∈ DataW.weights Tryz.prog 22 y.1, x ≤ M) → (∀ f ∈ xs, f.p.length ≤ M ∧ f.d.length ≤ M) ∧ xs.length * 88 ≤ M := by
  rcases Go.Deep.open_slice Tryz.underlying22 h with ⟨h1, hx⟩ | ⟨a, len, cap, m, k, D, Pl, h1, hb, hl, hm, hmm, hx, hel⟩
  · simp only [List.cons.injEq, and_true] at h1
    rw [h1]
    exact ⟨[], SeqV.nil W, by simp, fun M _ => ⟨by simp, by simp⟩⟩
  · simp only [List.cons.injEq, and_true] at h1
    rw [h1]
    subst hx
    have hlm : len ≤ m := by rw [hmm]; split <;> omega
    have each : ∀ i, i < len → ∃ f : Nd, (∀ c, c < 9 → W.cell? (a.add (i * 9 + c)) = (Lay.cs f)[c]?) ∧ D i = nodeD f := by
      intro i hi
      obtain ⟨cs', g1, g2⟩ := hel i (by omega)
      rw [ncellsNode] at g1
      obtain ⟨_, hlen, hcell⟩ := World.cells?_some g1
      obtain ⟨f, rfl, hd⟩ := open_node hlen g2
      refine ⟨f, fun c hc => ?_, hd⟩
      have := hcell c hc
      rwa [Go.Deep.add_add] at this
    obtain ⟨F, hF⟩ := Go.Deep.choose_lt each
    refine ⟨(List.range len).map F, ?_, ?_, ?_⟩
    · by_cases h0 : len = 0
      · subst h0
        exact .inl ⟨some a, cap, rfl, rfl, hm⟩
      · have c0 := (hF 0 (by omega)).1 0 (by decide)
        obtain ⟨b, off, sp⟩ := a
        have hsp : sp = none := by
          cases sp with
          | none => rfl
          | some s => simp [World.cell?, Addr.add, Lay.cs, ncells] at c0; split at c0 <;> simp at c0
        subst hsp
        have hblt : b < W.heap.size := World.block_lt_of_cell? W _ (show W.cell? ((⟨b, off, none⟩ : Addr).add (0 * 9 + 0)) = some _ from c0) |> fun h => by simpa [Addr.add] using h
        refine .inr ⟨b, off, cap, by simp, by simpa using hl, hm, hblt, by simp; omega, fun j u hj => ?_⟩
        have hjl : j < len * 9 := by
          have := (List.getElem?_eq_some_iff.1 hj).1
          rw [cellsL_length, List.length_map, List.length_range] at this
          exact this
        have hi : j / 9 < len := by omega
        have hg := cellsL_get ((List.range len).map F) (j / 9) (F (j / 9)) (by rw [List.getElem?_map, List.getElem?_range hi]; rfl) (j % 9) (by show j % 9 < 9; omega)
        rw [show j / 9 * Lay.k Nd + j % 9 = j by show j / 9 * 9 + j % 9 = j; omega, hj] at hg
        have := (hF (j / 9) hi).1 (j % 9) (by omega)
        rw [show j / 9 * 9 + j % 9 = j by omega, Addr.add_lit, ← hg] at this
        exact this
    · intro f hf
      obtain ⟨i, hi, rfl⟩ := List.mem_map.1 hf
      have hi' : i < len := by simpa using hi
      have h1 := nbulk_mem ((List.range len).map D) (D i) (List.mem_map.2 ⟨i, hi, rfl⟩)
      rw [(hF i hi').2] at h1
      simp only [nodeD, Rows.uptoBulk, Rows.uptoBulkAll] at h1 ⊢
      omega
    · intro M hM
      have hw : DataW.weights Tryz.prog 22 (.slice ((List.range len).map D) ((List.range (m - len)).map fun j => D (len + j)) : DataW H) =
          (len + (m - len)) * 88 :: (DataW.weightsAll Tryz.prog 46 ((List.range len).map D) ++ DataW.weightsAll Tryz.prog 46 ((List.range (m - len)).map fun j => D (len + j))) := by
        simp [DataW.weights, Tryz.underlying22, nbytesNode]
      rw [hw] at hM
      refine ⟨fun f hf => ?_, ?_⟩
      · obtain ⟨i, hi, rfl⟩ := List.mem_map.1 hf
        have hi' : i < len := by simpa using hi
        have key : ∀ x ∈ DataW.weights Tryz.prog 46 (D i), x ≤ M := fun x hx => hM x (List.mem_cons_of_mem _ (List.mem_append.2 (.inl (nweightsAll_mem _ (D i) x (List.mem_map.2 ⟨i, hi, rfl⟩) hx))))
        rw [(hF i hi').2, weights_node] at key
        exact ⟨key _ (by simp), key _ (by simp)⟩
      · have := hM _ (List.mem_cons_self ..)
        simp only [List.length_map, List.length_range]
        omega
set_option maxRecDepth 10000 in
theorem open_treeB {r : Reach} {b0 : Nat} {v : Value} {d : DataW H} {p : List MemPlace}
    (hv : Value.okWide Tryz.prog W r b0 25 v) (h : DataW.Trod enc Tryz.prog W base spare held 25 v d p) :
    ∃ vn vs t, v = .agg #[.int .i64 t.z, vn, vs] ∧ SeqV W vn t.ns ∧ SeqV W vs t.ss ∧ ((-9223372036854775808 ≤ t.z ∧ t.z ≤ 9223372036854775807) ∧ ∀ n ∈ t.ns, n.p.length ≤ Rows.uptoBulk d ∧ n.d.length ≤ Rows.uptoBulk d) ∧ ∀ M, M ≤ 140737488355328 → (∀ x ∈ DataW.weights Tryz.prog 25 d, x ≤ M) → WfT t ∧ t.ns.length * 88 ≤ M ∧ t.ss.length * 8 ≤ M := by
  obtain ⟨cs, rfl, hsz⟩ := okWide_struct Tryz.underlying25 hv
  have hsz1 : cs.size = 3 := hsz.trans ncellsTree
  obtain ⟨l⟩ := cs
  match l, hsz1 with
  | [c0, c1, c2], _ =>
    obtain ⟨fuel, hf⟩ := h
    have hf' : DataW.trod enc Tryz.prog W base spare held fuel 25 [c0, c1, c2] = some (d, p) := by simpa [Value.cells] using hf
    obtain ⟨xs, k, _, hx, _, hlen, hfs⟩ := DataW.trod_struct Tryz.underlying25 hf'
    match xs, hlen with
    | [y0, y1, y2], _ =>
      obtain ⟨z, e0, rfl, wz⟩ := DataW.trod_int Tryz.underlying3 (show DataW.trod enc Tryz.prog W base spare held k 3 [c0] = some y0 by simpa [ncellsInt] using hfs 0 _ rfl)
      obtain ⟨ns, hn, hU, hN⟩ := open_nodesB (show DataW.trod enc Tryz.prog W base spare held k 22 [c1] = some y1 by simpa [ncellsInt, ncellsNs] using hfs 1 _ rfl)
      obtain ⟨ss, hs, hb, hS⟩ := open_ints (show DataW.trod enc Tryz.prog W base spare held k 23 [c2] = some y2 by simpa [ncellsInt, ncellsNs, ncellsIs] using hfs 2 _ rfl)
      simp only [List.cons.injEq, and_true] at e0
      subst e0
      simp only [Prod.mk.injEq] at hx
      obtain ⟨rfl, _⟩ := hx
      refine ⟨c1, c2, ⟨z, ns, ss⟩, rfl, hn, hs, ⟨by have := bounds_i64 wz; simpa using this, fun n hn => ?_⟩, fun M hM hw => ?_⟩
      · have := hU n hn
        simp only [List.map_cons, List.map_nil, Rows.uptoBulk, Rows.uptoBulkAll]
        omega
      have hww : DataW.weights Tryz.prog 25 (.agg (List.map Prod.fst [(DataW.lit (.int .i64 z), []), y1, y2]) : DataW H) = DataW.weights Tryz.prog 22 y1.1 ++ DataW.weights Tryz.prog 23 y2.1 := by
        simp [DataW.weights, Tryz.underlying25, DataW.weightsEach]
      have hw1 : ∀ x ∈ DataW.weights Tryz.prog 22 y1.1, x ≤ M := fun x hx => hw x (by rw [hww]; exact List.mem_append.2 (.inl hx))
      have hw2 : ∀ x ∈ DataW.weights Tryz.prog 23 y2.1, x ≤ M := fun x hx => hw x (by rw [hww]; exact List.mem_append.2 (.inr hx))
      obtain ⟨h1, h2⟩ := hN M hw1
      exact ⟨⟨hb, fun n hn => by have := h1 n hn; omega⟩, h2, hS M hw2⟩
end
end Go.Proofs.YtalnmhgedfgooaaGreatDoor

namespace Go.Proofs.YtalnmhgedfgooaaGreatDoor
open Go.RowKit

/-- the boxes of a tree and of a transaction -/
structure TX (W : World) (qt qx : Nat) (z : Int) (vn vs : Value) (x : WTxn) : Prop where
  t : W.heap[qt]? = some (.cells #[.int .i64 z, vn, vs] 25 (0, 0))
  x : TAt W qx x
theorem TX.lt {W : World} {qt qx : Nat} {z : Int} {vn vs : Value} {x : WTxn} (h : TX W qt qx z vn vs x) : qt < W.heap.size ∧ qx < W.heap.size := ⟨(Array.getElem?_eq_some_iff.1 h.t).1, h.x.lt⟩
theorem TX.next {W V : World} {qt qx : Nat} {z : Int} {vn vs : Value} {x : WTxn} (h : TX W qt qx z vn vs x) (hb : Below W.heap.size W V) : TX V qt qx z vn vs x := ⟨(hb.block _ h.lt.1).trans h.t, h.x.next hb⟩
theorem TX.drew {W : World} {qt qx : Nat} {z : Int} {vn vs : Value} {x : WTxn} (h : TX W qt qx z vn vs x) : TX W.drew qt qx z vn vs x := h.next (Below.refl _ _).drew
theorem TX.other {W : World} {qt qx : Nat} {z : Int} {vn vs : Value} {x : WTxn} (h : TX W qt qx z vn vs x) {a : Addr} (v : Value) (h1 : qt ≠ a.block) (h2 : qx ≠ a.block) : TX (W.setCell a v) qt qx z vn vs x :=
  ⟨(Below.heap_setCell W a v qt h1).trans h.t, (Below.heap_setCell W a v qx h2).trans h.x⟩
theorem TX.ten {W : World} {qt qx : Nat} {z : Int} {vn vs : Value} {x : WTxn} (h : TX W qt qx z vn vs x) : W.cell? ⟨qt, 0, none⟩ = some (.int .i64 z) ∧ W.cell? ⟨qt, 1, none⟩ = some vn ∧ W.cell? ⟨qt, 2, none⟩ = some vs ∧ W.cell? ⟨qx, 0, none⟩ = some (.int .i64 x.z) ∧ W.cell? ⟨qx, 1, none⟩ = some (.int .i64 x.o) ∧ W.cell? ⟨qx, 2, none⟩ = some (.int .i64 x.s) ∧ W.cell? ⟨qx, 3, none⟩ = some (.string ⟨x.p.toArray⟩) ∧ W.cell? ⟨qx, 4, none⟩ = some (.string ⟨x.d.toArray⟩) ∧ W.cell? ⟨qx, 5, none⟩ = some (.int .i64 x.v) ∧ W.cell? ⟨qx, 6, none⟩ = some (.int .i64 x.w) := by
  have h1 := h.t
  refine ⟨?_, ?_, ?_, h.x.c0, h.x.c1, h.x.c2, h.x.c3, h.x.c4, h.x.c5, h.x.c6⟩ <;> simp [World.cell?, h1]
theorem TX.new (w : World) (z : Int) (vn vs : Value) (x : WTxn) : TX ((w.alloc (.cells #[.int .i64 z, vn, vs] 25)).alloc (.cells #[.int .i64 x.z, .int .i64 x.o, .int .i64 x.s, .string ⟨x.p.toArray⟩, .string ⟨x.d.toArray⟩, .int .i64 x.v, .int .i64 x.w] 29)) w.heap.size (w.heap.size + 1) z vn vs x := by
  refine ⟨?_, ?_⟩
  · rw [(allocB _ _).block _ (by simp)]
    exact heap_alloc_new w _
  · have h := TAt.new (w.alloc (.cells #[.int .i64 z, vn, vs] 25)) x
    simpa using h
/-- a tree in a box q, with its events: all of the call's own -/
structure AppX (W wx : World) (q : Nat) (t : Tr) (es : List Ev) (vn vs ve : Value) : Prop where
  box : wx.heap[q]? = some (.cells #[.int .i64 t.z, vn, vs] 25 (0, 0))
  n : OwnS wx W.heap.size vn t.ns
  s : OwnS wx W.heap.size vs t.ss
  e : OwnS wx W.heap.size ve es
  qb : W.heap.size ≤ q
  b : Below W.heap.size W wx
theorem AppX.lt {W wx : World} {q : Nat} {t : Tr} {es : List Ev} {vn vs ve : Value} (h : AppX W wx q t es vn vs ve) : q < wx.heap.size := (Array.getElem?_eq_some_iff.1 h.box).1
theorem AppX.next {W wx wy : World} {q : Nat} {t : Tr} {es : List Ev} {vn vs ve : Value} (h : AppX W wx q t es vn vs ve) (hb : Below wx.heap.size wx wy) : AppX W wy q t es vn vs ve :=
  ⟨(hb.block _ h.lt).trans h.box, h.n.next hb, h.s.next hb, h.e.next hb, h.qb, nnext h.b hb⟩
theorem AppX.cells {W wx : World} {q : Nat} {t : Tr} {es : List Ev} {vn vs ve : Value} (h : AppX W wx q t es vn vs ve) : wx.cell? ⟨q, 0, none⟩ = some (.int .i64 t.z) ∧ wx.cell? ⟨q, 1, none⟩ = some vn ∧ wx.cell? ⟨q, 2, none⟩ = some vs := by
  have h1 := h.box
  refine ⟨?_, ?_, ?_⟩ <;> simp [World.cell?, h1]
theorem app_new {W w2 : World} {B : Nat} {t : Tr} {es : List Ev} {vn vs ve : Value} (hb : Below W.heap.size W w2) (hB : W.heap.size ≤ B) (n : OwnS w2 B vn t.ns) (s : OwnS w2 B vs t.ss) (e : OwnS w2 B ve es) : AppX W (w2.alloc (.cells #[.int .i64 t.z, vn, vs] 25)) w2.heap.size t es vn vs ve :=
  ⟨heap_alloc_new w2 _, (n.lower hB).next (allocB _ _), (s.lower hB).next (allocB _ _), (e.lower hB).next (allocB _ _), hb.size, nnext hb (allocB _ _)⟩
theorem app_put {W w2 : World} {q B : Nat} {t : Tr} {es : List Ev} {vn vs ve : Value} (hb : Below W.heap.size W w2) (hB : W.heap.size ≤ q) (hq : q < B) (hz : w2.heap[q]? = some (.cells #[.int .i64 0, .slice none 0 0, .slice none 0 0] 25 (0, 0))) (n : OwnS w2 B vn t.ns) (s : OwnS w2 B vs t.ss) (e : OwnS w2 B ve es) :
    AppX W (((w2.setCell ⟨q, 0, none⟩ (.int .i64 t.z)).setCell ⟨q, 1, none⟩ vn).setCell ⟨q, 2, none⟩ vs) q t es vn vs ve := by
  have no : ∀ {α : Type} [Lay α] {v : Value} {xs : List α}, OwnS w2 B v xs → v.ownBlock ≠ some q := by
    intro α _ v xs ho e
    rcases ho with ⟨rfl, _⟩ | ⟨g, cap, rfl, hB, _⟩
    · cases e
    · simp [Value.ownBlock] at e; omega
  have hl : W.heap.size ≤ B := by omega
  refine ⟨?_, (((n.lower hl).other (no n) _).other (no n) _).other (no n) _, (((s.lower hl).other (no s) _).other (no s) _).other (no s) _, (((e.lower hl).other (no e) _).other (no e) _).other (no e) _, hB, ((hb.setCell hB _).setCell hB _).setCell hB _⟩
  rw [block_set vs (block_set vn (block_set (.int .i64 t.z) hz))]
  simp

theorem zcells {W : World} {q : Nat} (h : W.heap[q]? = some (.cells #[.int .i64 0, .slice none 0 0, .slice none 0 0] 25 (0, 0))) : W.cell? ⟨q, 0, none⟩ = some (.int .i64 0) ∧ W.cell? ⟨q, 1, none⟩ = some (.slice none 0 0) ∧ W.cell? ⟨q, 2, none⟩ = some (.slice none 0 0) ∧ W.frozen? ⟨q, 0, none⟩ = false ∧ W.frozen? ⟨q, 1, none⟩ = false ∧ W.frozen? ⟨q, 2, none⟩ = false := by
  refine ⟨?_, ?_, ?_, ?_, ?_, ?_⟩ <;> simp [World.cell?, World.frozen?, h]

theorem good_new : GoodT trNew := by
  refine ⟨by decide, ⟨List.Pairwise.nil, by simp [trNew]⟩, ⟨by decide, ⟨nroot, [], rfl, rfl, rfl⟩, List.pairwise_singleton _ _, ?_⟩, ?_⟩
  · intro n hn
    obtain rfl : n = nroot := by simpa [trNew] using hn
    refine ⟨by decide, goodB_root, fun h => absurd rfl h, by decide, by decide, by decide, by decide, by decide, by decide, by decide, by decide, ?_, .inl rfl⟩
    show (0 : Int) = kidsN [nroot] [47]
    simp [kidsN, nroot, dirOf_root]
  · intro n hn
    obtain rfl : n = nroot := by simpa [trNew] using hn
    decide
theorem GoodT.wf {t : Tr} (g : GoodT t) : WfT t := by
  refine ⟨fun s hs => by have := g.ses.2 s hs; omega, fun n hn => ?_⟩
  have k := g.nod.ok n hn
  have := goodB_le k.path
  have := k.data
  omega
def topn : WTxn := ⟨1, 1, 1, [], [], 0, 0⟩
theorem gd_open : gdE topn = 0 := by decide +kernel
theorem adm_open : admE trNew topn = 0 := by
  rw [adm_rest (goodT_true.2 good_new) gd_open]
  decide
theorem app_open : appE trNew topn = 0 ∧ appT trNew topn = ⟨1, [nroot], [1]⟩ := by
  have h : appE trNew topn = 0 := by
    rw [appE_chg adm_open]
    exact chgF_ok (by decide) (by decide)
  refine ⟨h, ?_⟩
  rw [appT, if_pos h]
  rfl

set_option maxHeartbeats 400000 in
theorem kopening_any (w : World) : Calls Tryz.prog 32 #[] w fun e w' => e = .returned (txnV topn) ∧ Below w.heap.size w w' := by
  go_enter Tryz.func32, Tryz.ntmps32
  go_wp2_with fail
  exact bodyPost_ret (v := txnV topn) (by simp [results, Tryz.results32, go_sem, txnV, topn]) rfl ⟨rfl, (Below.refl _ _).alloc (Nat.le_refl _) _⟩
end Go.Proofs.YtalnmhgedfgooaaGreatDoor

namespace Go.Proofs.YtalnmhgedfgooaaGreatDoor
open Go.RowKit

theorem keeps_plain {t : Tr} {x : WTxn} (h : appE t x = 0) : GoodT t ∧ GoodT (appT t x) ∧ (appT t x).z = x.z ∧ t.z < x.z ∧ appE (appT t x) x = 13 := by
  obtain ⟨g2, hz, hlt⟩ := app_good h
  obtain ⟨ha, _⟩ := app_zero h
  obtain ⟨g, hg, _⟩ := adm_zero ha
  refine ⟨g, g2, hz, hlt, ?_⟩
  have : admE (appT t x) x = 13 := by rw [adm_rest (goodT_true.2 g2) hg, if_pos (by omega)]
  rw [appE_adm (by omega), this]
theorem app_no {t : Tr} {x : WTxn} (h : appE t x ≠ 0) : appT t x = tr0 ∧ appV t x = [] := by
  exact ⟨by rw [appT, if_neg h], by rw [appV, if_neg h]⟩

end Go.Proofs.YtalnmhgedfgooaaGreatDoor

namespace Go.Proofs.YtalnmhgedfgooaaGreatDoor
open Go.RowKit

def delX (x : WTxn) (z : Int) : WTxn := ⟨z, 4, x.s, x.p, [], 0, 0⟩
structure MakP (t : Tr) (x : WTxn) (T : Tr) (V : List Ev) : Prop where
  good : GoodT t
  gT : GoodT T
  new : ∃ A B, NThere T.ns A (newN x) B x.p
  up : ∃ A u B, NThere T.ns A u B (dirOf x.p)
  once : (kidsP T.ns (dirOf x.p)).countP (fun s => s == stepOf x.p) = 1
  len : T.ns.length = t.ns.length + 1
  ev : V.length = 2
  dl : x.d.length ≤ 256
  pl : x.p.length ≤ 200
structure BackP (t : Tr) (x : WTxn) (z : Int) (T2 : Tr) : Prop where
  len : T2.ns.length = t.ns.length
  tz : T2.z = z
  hit : ∀ (i : Nat) (n : Nd), t.ns[i]? = some n → n.p = dirOf x.p → T2.ns[i]? = some ⟨n.p, n.d, n.c, n.m, z, n.v, n.k + 2, n.o, n.n⟩ ∧ 0 ≤ n.k ∧ n.k ≤ 2147483647
  miss : ∀ (i : Nat) (n : Nd), t.ns[i]? = some n → n.p ≠ dirOf x.p → T2.ns[i]? = some n
theorem drop_bump (q p : List UInt8) (z more : Int) (ns : List Nd) : dropN (bumpAt q z more ns) p = bumpAt q z more (dropN ns p) := by
  rw [dropN, bumpAt, bumpAt, dropN, List.filter_map]
  congr 1
  apply List.filter_congr
  intro n _
  simp only [Function.comp_apply, bump_p]
theorem make_parts {t : Tr} {x : WTxn} (h : appE t x = 0) (ho : x.o = 3) : GoodT t ∧ goodB x.p = true ∧ x.p ≠ [47] ∧ (∃ A B, NGap t.ns A B x.p) ∧ (∃ u ∈ t.ns, u.p = dirOf x.p) ∧ (appT t x).ns = bumpAt (dirOf x.p) x.z 1 (insN t.ns (newN x)) ∧ (appT t x).ss = t.ss ∧ x.s ∈ t.ss ∧ x.d.length ≤ 256 ∧ appV t x = [⟨1, x.p⟩, ⟨4, dirOf x.p⟩] := by
  obtain ⟨ha, hc, _⟩ := app_zero h
  obtain ⟨g, hg, _, _, h2⟩ := adm_zero ha
  have f := fine_of hg
  obtain ⟨p1, p2⟩ := f.path (.inl ho)
  rw [chgE, if_pos ho] at hc
  obtain ⟨c1, ⟨u, c2, _⟩, _, _⟩ := cre_zero hc
  have hu := lookN_some c2
  refine ⟨g, p1, p2, gap_of_look g.nod.asc c1, ⟨u, hu.1, hu.2⟩, ?_, ?_, h2 (by omega), f.d, ?_⟩
  · rw [appT, if_pos h]
    show chgN t x = _
    rw [chgN, if_neg (by omega), if_pos ho, addN]
    rfl
  · rw [appT, if_pos h]
    show chgS t x = _
    rw [chgS, if_neg (by omega), if_neg (by omega)]
  · rw [appV, if_pos h, chgV, if_neg (by omega), if_pos ho]
theorem makes_plain {t : Tr} {x : WTxn} (h : appE t x = 0) (ho : x.o = 3) : MakP t x (appT t x) (appV t x) := by
  obtain ⟨g, p1, p2, ⟨A, B, G⟩, ⟨u, hu1, hu2⟩, eN, _, _, hd, eV⟩ := make_parts h ho
  obtain ⟨gT, _⟩ := app_good h
  have hins : insN t.ns (newN x) = A ++ newN x :: B := G.ins
  have hdne := (dirOf_ne p1 p2)
  have hnew : newN x ∈ (appT t x).ns := by
    rw [eN, hins, bumpAt]
    refine List.mem_map.2 ⟨newN x, by simp, ?_⟩
    rw [if_neg (by show x.p ≠ dirOf x.p; exact fun e => hdne.1 e.symm)]
  have hup : bump x.z 1 u ∈ (appT t x).ns := by
    rw [eN, hins]
    refine bumpAt_mem ?_ hu2
    rw [G.eq] at hu1
    rcases List.mem_append.1 hu1 with e | e <;> simp [e]
  have asc := gT.nod.asc
  obtain ⟨A1, B1, T1⟩ := there_of_look asc (look_mem asc hnew)
  obtain ⟨A2, B2, T2⟩ := there_of_look asc (look_mem asc hup)
  have T1' : NThere (appT t x).ns A1 (newN x) B1 x.p := T1
  have T2' : NThere (appT t x).ns A2 (bump x.z 1 u) B2 (dirOf x.p) := by rw [← hu2]; exact T2
  refine ⟨g, gT, ⟨A1, B1, T1'⟩, ⟨A2, _, B2, T2'⟩, ?_, ?_, by rw [eV]; rfl, hd, goodB_le p1⟩
  · have key : ∀ n ∈ (appT t x).ns, n.p ≠ x.p → ¬ (dirOf n.p = dirOf x.p ∧ stepOf n.p = stepOf x.p) := by
      rintro n hn hne ⟨e1, e2⟩
      have k := gT.nod.ok n hn
      have hnr : n.p ≠ [47] := fun e => hdne.2 (by rw [← e1, e, dirOf_root])
      exact hne (dirOf_step k.path hnr p1 p2 e1 e2)
    have zero : ∀ l : List Nd, (∀ n ∈ l, n ∈ (appT t x).ns ∧ n.p ≠ x.p) → (kidsP l (dirOf x.p)).countP (fun s => s == stepOf x.p) = 0 := by
      intro l hl
      rw [List.countP_eq_zero]
      intro s hs
      obtain ⟨n, hn, rfl⟩ := List.mem_map.1 hs
      obtain ⟨h1, h2⟩ := List.mem_filter.1 hn
      have := key n (hl n h1).1 (hl n h1).2
      simp only [decide_eq_true_eq] at h2
      simp only [beq_iff_eq]
      exact fun e => this ⟨h2, e⟩
    have app : ∀ a b : List Nd, kidsP (a ++ b) (dirOf x.p) = kidsP a (dirOf x.p) ++ kidsP b (dirOf x.p) := fun a b => by simp [kidsP]
    rw [T1'.eq, app, List.countP_append, zero A1 (fun n hn => ⟨by rw [T1'.eq]; simp [hn], bl_ne (T1'.lo n hn)⟩)]
    rw [show newN x :: B1 = [newN x] ++ B1 from rfl, app, List.countP_append, zero B1 (fun n hn => ⟨by rw [T1'.eq]; simp [hn], (bl_ne (T1'.hi n hn)).symm⟩)]
    simp [kidsP, newN]
  · rw [eN, bumpAt_length, hins, G.eq]
    simp; omega
theorem back_plain {t : Tr} {x : WTxn} {z : Int} (h : appE t x = 0) (ho : x.o = 3) : (appE (appT t x) (delX x z) ≠ 0 → z ≤ x.z ∨ zGood z = false ∨ appE (appT t x) (delX x z) = 6) ∧ (appE (appT t x) (delX x z) = 0 → BackP t x z (appT (appT t x) (delX x z))) := by
  obtain ⟨g, p1, p2, ⟨A, B, G⟩, ⟨u, hu1, hu2⟩, eN, eS, hm, _, _⟩ := make_parts h ho
  obtain ⟨gT, hz, _⟩ := app_good h
  have M := makes_plain h ho
  have hs := (fine_of (adm_zero (app_zero h).1).2.1).s
  constructor
  · intro hE
    by_cases h1 : z ≤ x.z
    · exact .inl h1
    · cases h2 : zGood z with
      | false => exact .inr (.inl rfl)
      | true =>
        refine .inr (.inr ?_)
        have hgd : gdE (delX x z) = 0 := by
          have hn : numB (delX x z) = true := numB_iff.2 ⟨h2, cntB_iff.2 hs, rfl, rfl⟩
          have ho2 : opB (delX x z).o = true := rfl
          have hf : fmB (delX x z) = true := by simp [fmB, delX, p1, p2]
          rw [gdE, if_pos ho2, if_pos hn, if_pos (by simp [delX]), if_pos hf]
        have hadm : admE (appT t x) (delX x z) = 0 := by
          rw [adm_rest (goodT_true.2 gT) hgd, if_neg (by rw [hz]; exact h1), if_neg (fun e => by have := e.1; simp [delX] at this), if_neg (fun e => e.2 (by rw [eS]; exact hm))]
        rw [appE_chg hadm] at hE ⊢
        obtain ⟨A1, B1, T1⟩ := M.new
        have hce : chgE (appT t x) (delX x z) = 0 := by
          rw [chgE, if_neg (by simp [delX]), if_pos (show (delX x z).o = 4 from rfl), delE]
          show (match lookN (appT t x).ns x.p with | none => (7 : Int) | some n => if n.n ≠ 0 then 10 else 0) = 0
          rw [T1.look]
          simp [newN]
        cases hf : fullN (chgN (appT t x) (delX x z)) with
        | false => exact absurd (chgF_ok hce hf) hE
        | true => exact chgF_full hce hf
  · intro hE
    have e2 : (appT (appT t x) (delX x z)).ns = bumpAt (dirOf x.p) z (-1) (bumpAt (dirOf x.p) x.z 1 t.ns) := by
      rw [appT, if_pos hE]
      show chgN (appT t x) (delX x z) = _
      rw [chgN, if_neg (by simp [delX]), if_neg (by simp [delX]), if_pos (show (delX x z).o = 4 from rfl)]
      show rmN z (appT t x).ns x.p = _
      rw [rmN, eN, drop_bump]
      congr 2
      have hins : insN t.ns (newN x) = A ++ newN x :: B := G.ins
      have T0 : NThere (insN t.ns (newN x)) A (newN x) B x.p := ⟨hins, rfl, G.lo, G.hi⟩
      rw [T0.drop, G.eq]
    refine ⟨by rw [e2, bumpAt_length, bumpAt_length], (app_good hE).2.1, fun i n hn hp => ?_, fun i n hn hp => ?_⟩
    · have k := g.nod.ok n (List.mem_of_getElem? hn)
      refine ⟨?_, k.k0, g.cap n (List.mem_of_getElem? hn)⟩
      rw [e2, bumpAt, bumpAt, List.map_map, List.getElem?_map, hn]
      simp only [Option.map_some, Function.comp_apply, if_pos hp, bump]
      have e3 : n.k + 1 + 1 = n.k + 2 := by omega
      have e4 : n.n + 1 + -1 = n.n := by omega
      rw [e3, e4]
    · rw [e2, bumpAt, bumpAt, List.map_map, List.getElem?_map, hn]
      simp [hp]

end Go.Proofs.YtalnmhgedfgooaaGreatDoor
